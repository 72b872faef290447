"""Points 10, 11, 18: the edges of a net, and walks along them."""

import unittest
from itertools import product

from allbide.nets import edges, is_walk, keeps, walk_length
from tests.samples import NET, WRONG_WALKS, sample_nets, sample_times, walks_up_to

ROUND_NET = (3, ((0, 1, 5, 10), (1, 2, -4, None), (0, 2, None, 60)))


class EdgesTest(unittest.TestCase):
    def test_high_leads_forth_and_low_back_with_the_opposite_sign(self):
        self.assertEqual(edges((2, ((0, 1, 5, 10),))), (((0, "high"), 0, 1, 10), ((0, "low"), 1, 0, -5)))
        self.assertEqual(edges((2, ((1, 0, -5, -7),))), (((0, "high"), 1, 0, -7), ((0, "low"), 0, 1, 5)))
        self.assertEqual(edges((2, ((0, 1, 0, 0),))), (((0, "high"), 0, 1, 0), ((0, "low"), 1, 0, 0)))

    def test_a_side_that_is_none_has_no_edge(self):
        self.assertEqual(edges((2, ((0, 1, None, 3),))), (((0, "high"), 0, 1, 3),))
        self.assertEqual(edges((2, ((0, 1, 3, None),))), (((0, "low"), 1, 0, -3),))
        self.assertEqual(edges((6, ())), ())

    def test_the_order_is_that_of_the_rules_high_before_low(self):
        net = (4, ((3, 2, 1, None), (0, 1, -100, 100), (0, 1, None, 0), (2, 0, 7, -7)))
        self.assertEqual(edges(net), (
            ((0, "low"), 2, 3, -1),
            ((1, "high"), 0, 1, 100), ((1, "low"), 1, 0, 100),
            ((2, "high"), 0, 1, 0),
            ((3, "high"), 2, 0, -7), ((3, "low"), 0, 2, -7),
        ))

    def test_twelve_rules(self):
        found = edges((2, ((0, 1, 1, 2),) * 12))
        self.assertEqual([edge for edge, _, _, _ in found], list(product(range(12), ("high", "low"))))


class IsWalkTest(unittest.TestCase):
    def test_walks_of_one_edge(self):
        for edge, start, end, _ in edges(ROUND_NET):
            for first, last in product(range(3), repeat=2):
                self.assertIs(is_walk(ROUND_NET, first, last, (edge,)), (first, last) == (start, end))

    def test_the_walk_without_edges_leads_from_each_event_to_itself(self):
        for first, last in product(range(3), repeat=2):
            self.assertIs(is_walk(NET, first, last, ()), first == last)
        self.assertIs(is_walk((1, ()), 0, 0, ()), True)

    def test_longer_walks(self):
        walk = ((0, "high"), (0, "low"), (2, "high"), (1, "low"), (0, "low"))
        self.assertIs(is_walk(ROUND_NET, 0, 0, walk), True)
        self.assertIs(is_walk(ROUND_NET, 0, 1, walk), False)
        self.assertIs(is_walk(ROUND_NET, 1, 0, walk), False)
        self.assertIs(is_walk(ROUND_NET, 0, 1, walk[:4]), True)
        self.assertIs(is_walk(ROUND_NET, 0, 1, walk * 50 + walk[:1]), True)

    def test_an_edge_turned_left_out_or_changed(self):
        walk = ((2, "high"), (1, "low"), (0, "low"), (0, "high"))
        self.assertIs(is_walk(ROUND_NET, 0, 1, walk), True)
        for k in range(len(walk)):
            index, side = walk[k]
            self.assertIs(is_walk(ROUND_NET, 0, 1, walk[:k] + walk[k + 1:]), False, k)
            for other in ((index, "low" if side == "high" else "high"), ((index + 1) % 3, side)):
                self.assertIs(is_walk(ROUND_NET, 0, 1, walk[:k] + (other,) + walk[k + 1:]), False, (k, other))
        self.assertIs(is_walk(ROUND_NET, 1, 0, walk[::-1]), False)

    def test_wrong_walks_between_all_events(self):
        for walk in WRONG_WALKS:
            for first, last in product(range(3), repeat=2):
                self.assertIs(is_walk(NET, first, last, walk), False, walk)

    def test_the_edge_of_a_side_that_is_none(self):
        self.assertIs(is_walk(NET, 1, 2, ((1, "high"),)), False)
        self.assertIs(is_walk((2, ((0, 1, None, 4),)), 1, 0, ((0, "low"),)), False)
        self.assertIs(is_walk((2, ((0, 1, 0, 0),)), 1, 0, ((0, "low"),)), True)

    def test_all_walks_of_many_nets_lead_where_they_lead_only(self):
        for net in sample_nets():
            for walk, first, last, _ in walks_up_to(net, 2):
                for start, end in product(range(net[0]), repeat=2):
                    right = (start, end) == (first, last) or (walk == () and start == end)
                    self.assertIs(is_walk(net, start, end, walk), right, (net, walk))


class WalkLengthTest(unittest.TestCase):
    def test_the_example_of_point_18(self):
        self.assertIs(is_walk(NET, 1, 0, ((0, "low"),)), True)
        self.assertEqual(walk_length(NET, ((0, "low"),)), -5)

    def test_lengths(self):
        for walk, length in (
            ((), 0),
            (((0, "high"),), 10),
            (((1, "low"),), 4),
            (((2, "high"), (1, "low")), 64),
            (((2, "high"), (1, "low"), (0, "low")), 59),
            (((0, "high"), (0, "low")) * 100, 500),
        ):
            self.assertEqual(walk_length(ROUND_NET, walk), length)

    def test_a_walk_may_begin_at_any_event(self):
        net = (6, ((5, 4, 1, 2), (3, 5, 1, 2)))
        self.assertEqual(walk_length(net, ((0, "high"),)), 2)
        self.assertEqual(walk_length(net, ((0, "low"), (1, "low"))), -2)
        self.assertEqual(walk_length((1, ()), ()), 0)

    def test_lengths_are_the_sums_of_the_weights(self):
        for net in sample_nets():
            for walk, _, _, length in walks_up_to(net, 3):
                self.assertEqual(walk_length(net, walk), length)

    def test_kept_times_grow_along_a_walk_at_most_by_its_length(self):
        grown = 0
        for net in sample_nets():
            kept = [times for times in sample_times(net) if keeps(net, times)]
            for walk, first, last, _ in walks_up_to(net, 3):
                length = walk_length(net, walk)
                for times in kept:
                    self.assertLessEqual(times[last] - times[first], length)
                    grown += 1
        self.assertGreater(grown, 1000)


if __name__ == "__main__":
    unittest.main()
