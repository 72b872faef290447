"""Points 3, 5, 6, 9, 12, 13: what nets and times are, and which rules times keep."""

import unittest

from allbide.nets import edges, excess, first_broken, is_net, is_times, keeps
from tests.samples import NET, WRONG_NETS, WRONG_TIMES, holds, sample_nets, sample_times


class IsNetTest(unittest.TestCase):
    def test_right_nets(self):
        twelve = tuple((k % 6, (k + 1) % 6, -k, k) for k in range(12))
        for net in (
            NET, (1, ()), (6, ()), (6, twelve), (6, ((5, 0, 0, 0),)),
            (2, ((0, 1, -100, 100),)), (2, ((0, 1, 100, -100),)), (2, ((1, 0, None, -100),)), (2, ((1, 0, 100, None),)),
            (2, ((0, 1, None, 100), (0, 1, -100, None), (0, 1, None, 100))),
        ):
            self.assertIs(is_net(net), True, net)

    def test_wrong_nets(self):
        for net in WRONG_NETS:
            self.assertIs(is_net(net), False, net)

    def test_every_size_has_its_own_events(self):
        for size in range(2, 7):
            self.assertIs(is_net((size, ((size - 1, 0, 0, 0), (0, size - 1, 0, 0)))), True)
            self.assertIs(is_net((size, ((size, 0, 0, 0),))), False)
            self.assertIs(is_net((size, ((0, size, 0, 0),))), False)


class IsTimesTest(unittest.TestCase):
    def test_right_times(self):
        for times, net in (
            ((0, 0, 0), NET), ((-1000, 1000, 0), NET), ((1000, 0, -1000), NET),
            ((0,), (1, ())), ((-1000,), (1, ())), ((1000,) * 6, (6, ())),
        ):
            self.assertIs(is_times(times, net), True, times)

    def test_times_need_not_keep_the_net(self):
        self.assertIs(is_times((0, 100, 0), NET), True)

    def test_wrong_times(self):
        for times in WRONG_TIMES:
            self.assertIs(is_times(times, NET), False, times)
        self.assertIs(is_times((), (1, ())), False)
        self.assertIs(is_times((0, 0), (1, ())), False)


class ExcessTest(unittest.TestCase):
    def check(self, rule, difference, expected):
        net, times = (2, (rule,)), (7, 7 + difference)
        if rule[:2] == (1, 0):
            times = (7 + difference, 7)
        self.assertEqual(excess(net, times), (expected,), (rule, difference))
        self.assertIs(keeps(net, times), expected == 0)
        self.assertEqual(first_broken(net, times), None if expected == 0 else 0)

    def test_both_sides(self):
        for start, end in ((0, 1), (1, 0)):
            for difference, expected in ((5, 0), (7, 0), (10, 0), (4, -1), (11, 1), (-20, -25), (110, 100)):
                self.check((start, end, 5, 10), difference, expected)

    def test_a_side_that_is_none_asks_nothing(self):
        for difference, expected in ((5, 0), (900, 0), (4, -1), (-900, -905)):
            self.check((0, 1, 5, None), difference, expected)
        for difference, expected in ((5, 0), (-900, 0), (6, 1), (900, 895)):
            self.check((0, 1, None, 5), difference, expected)

    def test_sides_that_are_zero_ask_something(self):
        for difference, expected in ((0, 0), (1, 1), (-1, -1)):
            self.check((0, 1, 0, 0), difference, expected)
        self.check((0, 1, 0, None), -1, -1)
        self.check((0, 1, None, 0), 1, 1)

    def test_a_low_greater_than_the_high_never_holds(self):
        # Between the two the difference is too great and too small, and the low tells the excess.
        for difference, expected in ((4, -6), (5, -5), (6, -4), (9, -1), (10, 5), (11, 6)):
            self.check((0, 1, 10, 5), difference, expected)

    def test_several_rules_in_their_order(self):
        net = (3, ((0, 1, 5, 10), (1, 2, 0, None), (2, 0, None, -20), (0, 2, 1, None)))
        self.assertEqual(excess(net, (0, 12, 11)), (2, -1, 9, 0))
        self.assertEqual(excess(net, (0, 5, 20)), (0, 0, 0, 0))
        self.assertEqual(first_broken(net, (0, 12, 11)), 0)
        self.assertEqual(first_broken(net, (0, 9, 8)), 1)
        self.assertEqual(first_broken(net, (0, 9, 9)), 2)
        self.assertIsNone(first_broken(net, (0, 5, 20)))

    def test_no_rules(self):
        for size in range(1, 7):
            self.assertEqual(excess((size, ()), (9,) * size), ())
            self.assertIsNone(first_broken((size, ()), (9,) * size))
            self.assertIs(keeps((size, ()), (9,) * size), True)

    def test_the_greatest_numbers(self):
        net = (2, ((0, 1, 100, None), (0, 1, None, -100)))
        self.assertEqual(excess(net, (1000, -1000)), (-2100, 0))
        self.assertEqual(excess(net, (-1000, 1000)), (0, 2100))


class RulesAndTimesTest(unittest.TestCase):
    """What the points say of all nets and times, over many of them."""

    def test_times_keep_a_net_if_all_rules_hold(self):
        for net in sample_nets():
            for times in sample_times(net):
                held = [holds(rule, times) for rule in net[1]]
                self.assertIs(keeps(net, times), all(held))
                self.assertEqual([missed == 0 for missed in excess(net, times)], held)
                self.assertEqual(first_broken(net, times), held.index(False) if False in held else None)

    def test_point_12_times_keep_a_net_if_each_edge_says_so(self):
        for net in sample_nets():
            for times in sample_times(net):
                right = all(times[end] - times[start] <= weight for _, start, end, weight in edges(net))
                self.assertIs(keeps(net, times), right)

    def test_point_13_times_put_later_by_a_number(self):
        for net in sample_nets():
            for times in sample_times(net):
                for later in (-900, -1, 1, 996):
                    self.assertEqual(excess(net, tuple(time + later for time in times)), excess(net, times))


if __name__ == "__main__":
    unittest.main()
