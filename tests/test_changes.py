"""Points 14, 15, 16: nets turned around, renamed, in part, and with a further rule."""

import unittest
from itertools import combinations, permutations

from allbide.changes import part, renamed, turned, with_rule
from allbide.errors import TooLarge
from allbide.nets import excess, is_net, keeps
from tests.samples import FULL_NET, NET, WRONG_RULES, sample_nets, sample_times

WIDE_NET = (5, ((3, 1, 1, 2), (0, 4, None, 7), (1, 3, -2, None), (4, 3, 0, 0), (1, 2, 9, 9)))


def choices(size):
    """All ascending tuples of at least one event."""
    return [chosen for many in range(1, size + 1) for chosen in combinations(range(size), many)]


class TurnedTest(unittest.TestCase):
    def test_start_and_end_are_exchanged_and_the_sides_stay(self):
        self.assertEqual(turned(WIDE_NET), (
            5, ((1, 3, 1, 2), (4, 0, None, 7), (3, 1, -2, None), (3, 4, 0, 0), (2, 1, 9, 9)),
        ))
        self.assertEqual(turned((6, ())), (6, ()))

    def test_times_with_the_opposite_signs_have_the_same_excesses(self):
        for net in sample_nets():
            for times in sample_times(net):
                self.assertEqual(excess(turned(net), tuple(-time for time in times)), excess(net, times))

    def test_turned_twice_it_is_the_net(self):
        for net in sample_nets():
            self.assertTrue(is_net(turned(net)))
            self.assertEqual(turned(turned(net)), net)


class RenamedTest(unittest.TestCase):
    def test_order_of_x_is_in_the_place_of_x(self):
        self.assertEqual(renamed(WIDE_NET, (1, 2, 3, 4, 0)), (
            5, ((4, 2, 1, 2), (1, 0, None, 7), (2, 4, -2, None), (0, 4, 0, 0), (2, 3, 9, 9)),
        ))
        self.assertEqual(renamed((1, ()), (0,)), (1, ()))

    def test_the_order_that_changes_nothing(self):
        self.assertEqual(renamed(WIDE_NET, (0, 1, 2, 3, 4)), WIDE_NET)

    def test_the_renamed_net_holds_for_the_renamed_times(self):
        for net in sample_nets():
            for order in permutations(range(net[0])) if net[0] < 4 else ((5, 0, 1, 2, 3, 4),):
                other = renamed(net, order)
                self.assertTrue(is_net(other))
                for times in sample_times(net):
                    moved = [None] * net[0]
                    for event in range(net[0]):
                        moved[order[event]] = times[event]
                    self.assertIs(keeps(other, tuple(moved)), keeps(net, times))
                    self.assertEqual(excess(other, tuple(moved)), excess(net, times))


class PartTest(unittest.TestCase):
    def test_rules_on_two_chosen_events_in_their_sequence(self):
        self.assertEqual(part(WIDE_NET, (1, 3)), (2, ((1, 0, 1, 2), (0, 1, -2, None))))
        self.assertEqual(part(WIDE_NET, (0, 3, 4)), (3, ((0, 2, None, 7), (2, 1, 0, 0))))
        self.assertEqual(part(WIDE_NET, (1, 2, 3)), (3, ((2, 0, 1, 2), (0, 2, -2, None), (0, 1, 9, 9))))
        self.assertEqual(part(WIDE_NET, (0, 1)), (2, ()))

    def test_one_event_and_all_events(self):
        for event in range(5):
            self.assertEqual(part(WIDE_NET, (event,)), (1, ()))
        self.assertEqual(part(WIDE_NET, (0, 1, 2, 3, 4)), WIDE_NET)

    def test_kept_times_of_the_chosen_events_keep_the_part(self):
        for net in sample_nets():
            kept = [times for times in sample_times(net) if keeps(net, times)]
            for chosen in choices(net[0]):
                other = part(net, chosen)
                self.assertTrue(is_net(other))
                self.assertEqual(other[0], len(chosen))
                for times in kept:
                    self.assertTrue(keeps(other, tuple(times[event] for event in chosen)))

    def test_the_part_has_the_excesses_of_its_rules(self):
        times = (4, 9, -3, 2, 8)
        for chosen in choices(5):
            missed = [
                one for rule, one in zip(WIDE_NET[1], excess(WIDE_NET, times))
                if rule[0] in chosen and rule[1] in chosen
            ]
            self.assertEqual(excess(part(WIDE_NET, chosen), tuple(times[event] for event in chosen)), tuple(missed))


class WithRuleTest(unittest.TestCase):
    def test_the_rule_comes_behind_the_others(self):
        self.assertEqual(with_rule(NET, (2, 0, -1, 3)), (3, NET[1] + ((2, 0, -1, 3),)))
        self.assertEqual(with_rule(NET, (0, 1, 5, 10)), (3, NET[1] + ((0, 1, 5, 10),)))
        self.assertEqual(with_rule((6, ()), (5, 4, None, 100)), (6, ((5, 4, None, 100),)))

    def test_too_large_exactly_with_twelve_rules(self):
        net = (3, ())
        for many in range(12):
            self.assertEqual(len(net[1]), many)
            net = with_rule(net, (0, 1, -many, None))
        self.assertEqual(net, (3, tuple((0, 1, -many, None) for many in range(12))))
        with self.assertRaises(TooLarge) as caught:
            with_rule(net, (0, 1, 0, None))
        self.assertEqual(caught.exception.what, "rules")
        with self.assertRaises(TooLarge):
            with_rule(FULL_NET, FULL_NET[1][0])

    def test_a_wrong_rule_comes_before_too_many(self):
        for rule in WRONG_RULES:
            with self.assertRaises(ValueError) as caught:
                with_rule(FULL_NET, rule)
            self.assertEqual(getattr(caught.exception, "name", None), "rule", rule)


if __name__ == "__main__":
    unittest.main()
