"""Points 19 to 27 and 29: rounds, right heights, tight bounds, and the evidence for them."""

import unittest
from itertools import permutations, product

from allbide.bounds import (
    accepts_bound, bound_evidence, can_keep, shows_kept, shows_round, some_heights, tight, told_round,
)
from allbide.changes import renamed, with_rule
from allbide.nets import is_walk, walk_length
from tests.oracles import distances, is_right, right_heights
from tests.samples import (
    LOST_NETS, NET, NO_INTEGERS, SHORT_NET, WRONG_CHOICES, WRONG_WALKS, AnyEqual, kept_pairs, ring, sample_nets,
    varied_nets, walks_up_to,
)

ROUND_NET = (3, ((0, 1, 1, 4), (1, 2, 1, None), (2, 0, -1, None), (0, 2, None, 9)))


def with_events_exchanged(net):
    """The net in which the two events of each rule are exchanged."""
    size, rules = net
    return size, tuple((end, start, low, high) for start, end, low, high in rules)


def multiplied(net, by):
    """The net with all numbers multiplied; they stay within the sides of a rule only if they are small."""
    size, rules = net
    return size, tuple(
        (start, end, None if low is None else low * by, None if high is None else high * by)
        for start, end, low, high in rules
    )


class KeptTest(unittest.TestCase):
    """Point 20: heights that show that a net can be kept."""

    def test_right_heights_of_any_size(self):
        for heights in ((0, 5, 5), (0, 10, 99), (-10 ** 9, 7 - 10 ** 9, 10 ** 30), (1000, 1005, 1001 + 4)):
            self.assertIs(shows_kept(NET, heights), True, heights)
        self.assertIs(shows_kept((1, ()), (10 ** 40,)), True)
        self.assertIs(shows_kept((6, ()), (-10 ** 40, 0, 1, 2, 3, 10 ** 40)), True)

    def test_heights_for_which_a_rule_does_not_hold(self):
        for heights in ((0, 4, 5), (0, 11, 12), (0, 5, 4), (10 ** 30, 10 ** 30 + 11, 10 ** 31), (0, 0, 0)):
            self.assertIs(shows_kept(NET, heights), False, heights)

    def test_one_number_too_few_or_too_many_or_of_another_kind(self):
        for heights in ((), (0,), (0, 5), (0, 5, 5, 5), [0, 5, 5], None, True, 0, "055", {}, AnyEqual()):
            self.assertIs(shows_kept(NET, heights), False, heights)
        for value in NO_INTEGERS:
            for k in range(3):
                heights = (0, 0, 0)[:k] + (value,) + (0, 0, 0)[k + 1:]
                self.assertIs(shows_kept((3, ()), heights), False, heights)
        self.assertIs(shows_kept((3, ()), (0, 0, 0)), True)
        self.assertIs(shows_kept((2, ((0, 1, 1, 1),)), (False, True)), False)

    def test_each_rule_is_asked(self):
        for net in sample_nets():
            if net[0] < 4:
                for heights in product((-3, 0, 2), repeat=net[0]):
                    self.assertIs(shows_kept(net, heights), is_right(net, heights))


class RoundTest(unittest.TestCase):
    """Point 19: rounds whose length is below 0."""

    def test_rounds_below_zero(self):
        walk = ((0, "low"), (2, "low"), (1, "low"))
        for k in range(3):
            self.assertIs(shows_round(ROUND_NET, walk[k:] + walk[:k]), True, k)
        self.assertIs(shows_round(ROUND_NET, walk * 40), True)
        self.assertIs(shows_round((2, ((0, 1, 10, 5),)), ((0, "low"), (0, "high"))), True)
        self.assertIs(shows_round((2, ((0, 1, 10, 5),)), ((0, "high"), (0, "low"))), True)

    def test_a_round_may_contain_others(self):
        walk = ((0, "low"), (0, "high"), (0, "low"), (2, "low"), (1, "low"))
        self.assertEqual(walk_length(ROUND_NET, walk), 2)
        self.assertIs(shows_round(ROUND_NET, walk), False)
        self.assertIs(shows_round(ROUND_NET, walk + walk[2:] * 3), True)

    def test_an_edge_turned_left_out_changed_or_of_another_kind(self):
        walk = ((0, "low"), (2, "low"), (1, "low"))
        for k, (index, side) in enumerate(walk):
            self.assertIs(shows_round(ROUND_NET, walk[:k] + walk[k + 1:]), False, k)
            for other in (
                (index, "high"), ((index + 1) % 4, side), (index + 4, side), (index - 4, side), [index, side],
                (index, side.upper()), (index,), (index, side, side), index, side, None, (True, side), (index, True),
                (index, AnyEqual()), (AnyEqual(), side), (),
            ):
                changed = walk[:k] + (other,) + walk[k + 1:]
                self.assertIs(shows_round(ROUND_NET, changed), False, changed)
        self.assertIs(shows_round(ROUND_NET, walk[::-1]), False)

    def test_the_length_zero_and_above(self):
        for size in range(2, 7):
            walk = tuple((k, "low") for k in range(size - 1, -1, -1))
            for slack, right in ((-1, True), (0, False), (1, False)):
                self.assertIs(shows_round(ring(size, slack), walk), right, (size, slack))

    def test_without_edges_and_walks_that_do_not_close(self):
        for net in (ROUND_NET, *LOST_NETS):
            self.assertIs(shows_round(net, ()), False)
        self.assertIs(shows_round(ROUND_NET, ((0, "low"),)), False)
        self.assertIs(shows_round(ROUND_NET, ((2, "low"), (1, "low"), (0, "low"), (2, "low"))), False)
        self.assertIs(shows_round(ROUND_NET, ((2, "low"), (0, "low"), (1, "low"))), False)

    def test_values_of_other_kinds(self):
        for value in WRONG_WALKS:
            self.assertIs(shows_round(NET, value), False, value)
        for value in ([(0, "low"), (0, "high")], {(0, "low"): 1}, ((0, "low"), (0, "high"), None)):
            self.assertIs(shows_round((2, ((0, 1, 10, 5),)), value), False, value)

    def test_all_short_walks_of_many_nets(self):
        found = 0
        for net in sample_nets()[::5] + list(LOST_NETS[:5]):
            for walk, first, last, length in walks_up_to(net, 3):
                right = walk != () and first == last and length < 0
                self.assertIs(shows_round(net, walk), right, (net, walk))
                found += right
        self.assertGreater(found, 20)


class CanKeepTest(unittest.TestCase):
    """Points 20 and 27: one of the two is found and accepted, and never both are."""

    def check(self, net):
        kept = distances(net) is not None
        heights, walk = some_heights(net), told_round(net)
        self.assertIs(can_keep(net), kept, net)
        self.assertIs(heights is None, not kept, net)
        self.assertIs(walk is None, kept, net)
        self.assertIs(shows_kept(net, heights), kept, net)
        self.assertIs(shows_round(net, walk), not kept, net)
        if kept:
            self.assertTrue(is_right(net, heights), net)
        return kept

    def test_nets_that_can_be_kept_and_nets_that_cannot(self):
        for net in (NET, SHORT_NET, (1, ()), (6, ()), *[ring(size, 0) for size in range(2, 7)]):
            self.assertTrue(self.check(net), net)
        for net in LOST_NETS:
            self.assertFalse(self.check(net), net)

    def test_many_nets(self):
        answers = [self.check(net) for net in sample_nets() + varied_nets(20, 400)]
        self.assertGreater(answers.count(True), 150)
        self.assertGreater(answers.count(False), 150)
        for net, times in kept_pairs(21, 100):
            self.assertTrue(self.check(net))
            self.assertIs(shows_kept(net, times), True)

    def test_never_both_accepted_for_one_net(self):
        for net in sample_nets()[::7] + list(LOST_NETS[:5]) + varied_nets(22, 30, sizes=(2, 3)):
            rounds = [walk for walk, first, last, length in walks_up_to(net, 3) if shows_round(net, walk)]
            shown = [heights for heights in product(range(-12, 13, 2), repeat=net[0]) if shows_kept(net, heights)]
            self.assertFalse(rounds and shown, net)
            self.assertIs(can_keep(net), not rounds, net)

    def test_the_greatest_numbers(self):
        rules = tuple((k, k + 1, 100, 100) for k in range(5))
        self.assertTrue(self.check((6, rules)))
        self.assertEqual(tight((6, rules))[0], (0, 100, 200, 300, 400, 500))
        self.assertFalse(self.check((6, rules + ((0, 5, None, 100),))))


class ToldRoundTest(unittest.TestCase):
    """Point 27: as few edges as a round below 0 can have."""

    def test_rings(self):
        for size in range(2, 7):
            self.assertEqual(len(told_round(ring(size, -1))), size)
            self.assertIsNone(told_round(ring(size, 0)))

    def test_a_shorter_round_is_told_even_if_a_longer_one_is_further_below(self):
        net = (4, ring(4, -90)[1] + ((3, 2, 0, None),))
        self.assertEqual(len(told_round(net)), 2)
        self.assertIs(shows_round(net, told_round(net)), True)
        net = (6, ring(6, -90)[1] + ((2, 0, -1, None),))
        self.assertEqual(len(told_round(net)), 3)
        net = (5, ((4, 3, None, -2),) + ring(5, -50)[1][:3] + ((3, 4, None, 1), (3, 0, -2, None)))
        self.assertEqual(sorted(told_round(net)), [(0, "high"), (4, "high")])

    def test_no_round_with_fewer_edges_is_below_zero(self):
        many = {}
        for net in varied_nets(23, 400) + list(LOST_NETS):
            walk = told_round(net)
            if walk is None:
                continue
            many[len(walk)] = many.get(len(walk), 0) + 1
            self.assertIs(shows_round(net, walk), True)
            fewest = self.fewest_edges(net)
            self.assertEqual(len(walk), fewest, net)
        self.assertGreater(min(many.get(k, 0) for k in (2, 3, 4)), 3)

    def fewest_edges(self, net):
        """The least number of edges of a round below 0, by the least lengths of exactly so many edges."""
        size, rules = net
        one = {}
        for start, end, low, high in rules:
            for i, j, weight in ((start, end, high), (end, start, None if low is None else -low)):
                if weight is not None:
                    one[i, j] = min(weight, one.get((i, j), weight))
        lengths = dict(one)
        for many in range(1, size + 1):
            if any(i == j and length < 0 for (i, j), length in lengths.items()):
                return many
            further = {}
            for (i, k), length in lengths.items():
                for (m, j), weight in one.items():
                    if k == m:
                        further[i, j] = min(length + weight, further.get((i, j), length + weight))
            lengths = further
        return None


class TightTest(unittest.TestCase):
    """Points 21, 23 to 26: what tight bounds are."""

    def test_the_example_of_point_29(self):
        self.assertEqual(tight(SHORT_NET), ((0, 10, 60), (-5, 0, 55), (-5, 0, 0)))

    def test_none_and_the_bound_of_an_event_with_itself(self):
        self.assertEqual(tight((1, ())), ((0,),))
        self.assertEqual(tight((2, ())), ((0, None), (None, 0)))
        self.assertEqual(tight(NET), ((0, 10, None), (-5, 0, None), (-5, 0, 0)))
        self.assertEqual(tight(ring(6, 0))[3], (-3, -2, -1, 0, 1, 2))
        for net, _ in kept_pairs(24, 100):
            self.assertEqual([tight(net)[k][k] for k in range(net[0])], [0] * net[0])

    def test_least_lengths_of_walks(self):
        for net in sample_nets() + varied_nets(25, 300):
            bounds = distances(net)
            if bounds is not None:
                self.assertEqual(tight(net), tuple(tuple(row) for row in bounds), net)

    def test_the_greatest_difference_of_right_heights(self):
        # Among so few small numbers the greatest differences stay within the box, if there are some.
        compared = 0
        for net in sample_nets()[::3]:
            if net[0] < 4 and distances(net) is not None:
                bounds, found = tight(net), right_heights(net, -8, 8)
                for i, j in product(range(net[0]), repeat=2):
                    greatest = max(heights[j] - heights[i] for heights in found)
                    compared += 1
                    if bounds[i][j] is None:
                        self.assertGreaterEqual(greatest, 9, (net, i, j))
                    else:
                        self.assertEqual(greatest, bounds[i][j], (net, i, j))
        self.assertGreater(compared, 300)

    def test_point_23_three_events_and_each_difference_between(self):
        for net, times in kept_pairs(26, 80):
            bounds = tight(net)
            for i, j, k in product(range(net[0]), repeat=3):
                if bounds[i][j] is not None and bounds[j][k] is not None:
                    self.assertLessEqual(bounds[i][k], bounds[i][j] + bounds[j][k])
                if bounds[i][j] is not None:
                    self.assertLessEqual(times[j] - times[i], bounds[i][j])
        net = (3, ((0, 1, 2, 3), (1, 2, -1, 1)))
        differences = {heights[2] - heights[0] for heights in right_heights(net, -5, 5)}
        self.assertEqual(sorted(differences), list(range(-tight(net)[2][0], tight(net)[0][2] + 1)))

    def test_point_24_rows_and_columns(self):
        rows = columns = 0
        compared = [net for net in sample_nets()[::9] if net[0] < 4]
        for net in sample_nets()[::3] + [net for net, _ in kept_pairs(27, 80)]:
            if distances(net) is None:
                continue
            bounds = tight(net)
            found = right_heights(net, -8, 8) if net in compared else []
            for i in range(net[0]):
                greatest, least = bounds[i], tuple(bounds[j][i] for j in range(net[0]))
                if None not in greatest:
                    rows += 1
                    self.assertIs(shows_kept(net, greatest), True)
                    for heights in found:
                        self.assertTrue(heights[i] or all(a <= b for a, b in zip(heights, greatest)))
                if None not in least:
                    columns += 1
                    least = tuple(-length for length in least)
                    self.assertIs(shows_kept(net, least), True)
                    for heights in found:
                        self.assertTrue(heights[i] or all(a >= b for a, b in zip(heights, least)))
        self.assertGreater(min(rows, columns), 100)

    def test_point_25_a_further_rule(self):
        for (net, times), rule in product(kept_pairs(28, 40), ((0, 1, -3, 4), (1, 0, 2, None), (0, 1, None, 0))):
            if net[0] > 1 and len(net[1]) < 12 and distances(with_rule(net, rule)) is not None:
                before, after = tight(net), tight(with_rule(net, rule))
                for i, j in product(range(net[0]), repeat=2):
                    if before[i][j] is not None:
                        self.assertIsNotNone(after[i][j])
                        self.assertLessEqual(after[i][j], before[i][j])

    def test_point_26_events_exchanged_or_renamed_and_numbers_multiplied(self):
        for net, _ in kept_pairs(29, 60, sizes=(1, 2, 3, 4), far=3):
            bounds = tight(net)
            pairs = list(product(range(net[0]), repeat=2))
            other = tight(with_events_exchanged(net))
            self.assertEqual([other[j][i] for i, j in pairs], [bounds[i][j] for i, j in pairs])
            for order in permutations(range(net[0])):
                other = tight(renamed(net, order))
                self.assertEqual([other[order[i]][order[j]] for i, j in pairs], [bounds[i][j] for i, j in pairs])
            for by in (1, 2, 5):
                expected = [None if bounds[i][j] is None else by * bounds[i][j] for i, j in pairs]
                other = tight(multiplied(net, by))
                self.assertEqual([other[i][j] for i, j in pairs], expected)


class BoundEvidenceTest(unittest.TestCase):
    """Point 22: evidence for tight bounds, and its judge."""

    def test_evidence_for_all_bounds_of_many_nets(self):
        kinds = [0, 0]
        for net in sample_nets()[::4] + [net for net, _ in kept_pairs(30, 100)] + [NET, SHORT_NET]:
            bounds = distances(net)
            if bounds is None:
                continue
            for i, j in product(range(net[0]), repeat=2):
                evidence = bound_evidence(net, i, j)
                self.assertIs(accepts_bound(net, i, j, bounds[i][j], evidence), True, (net, i, j))
                kinds[bounds[i][j] is None] += 1
                self.check_form(net, i, j, bounds[i][j], evidence)
                for number in (-1, 0, 1, None, 7):
                    if number != bounds[i][j]:
                        self.assertIs(accepts_bound(net, i, j, number, evidence), False, (net, i, j, number))
        self.assertGreater(min(kinds), 300)

    def check_form(self, net, i, j, number, evidence):
        """Check evidence as the words of point 22 say it."""
        if number is None:
            heights, chosen = evidence
            self.assertTrue(is_right(net, heights))
            self.assertEqual(list(chosen), sorted(set(chosen)))
            self.assertTrue(j in chosen and i not in chosen)
            further = tuple(height + 1000 * (k in chosen) for k, height in enumerate(heights))
            self.assertTrue(is_right(net, further))
        else:
            walk, heights = evidence
            self.assertTrue(is_walk(net, i, j, walk))
            self.assertEqual(walk_length(net, walk), number)
            self.assertTrue(is_right(net, heights))
            self.assertEqual(heights[j] - heights[i], number)

    def test_evidence_of_an_integer_changed(self):
        walk, heights = ((0, "low"), (2, "high")), (0, 5, 60)
        self.assertIs(accepts_bound(SHORT_NET, 1, 2, 55, (walk, heights)), True)
        self.assertIs(accepts_bound(SHORT_NET, 1, 2, 55, (walk, (-7, -2, 53))), True)
        around = ((0, "low"), (2, "high"), (1, "low"), (0, "low"), (2, "high"))
        for number, value in (
            # A number, also together with what is like it.
            (54, (walk, heights)), (56, (walk, heights)), (54, (walk, (0, 6, 60))), (None, (walk, heights)),
            (True, (walk, heights)), ("55", (walk, heights)), (55.0, (walk, heights)), (AnyEqual(), (walk, heights)),
            # A height.
            (55, (walk, (1, 5, 60))), (55, (walk, (0, 6, 60))), (55, (walk, (0, 5, 59))), (55, (walk, (0, 5, 60, 60))),
            (55, (walk, (0, 5))), (55, (walk, [0, 5, 60])), (55, (walk, (False, 5, 60))), (55, (walk, None)),
            (55, (walk, (0, 5.0, 60))), (55, (walk, (5, 60))), (55, (walk, ())),
            # An edge.
            (55, (walk[:1], heights)), (55, (walk[1:], heights)), (55, ((), heights)), (55, (walk[::-1], heights)),
            (55, (((0, "low"), (2, "low")), heights)), (55, (((0, "high"), (2, "high")), heights)),
            (55, (((1, "low"), (2, "high")), heights)), (55, ([*walk], heights)), (55, (None, heights)),
            (55, (around, heights)),
            # The form.
            (55, (walk,)), (55, (walk, heights, heights)), (55, [walk, heights]), (55, (heights, walk)),
            (55, None), (55, ()), (55, True), (55, "ab"), (55, AnyEqual()), (55, {walk: heights}),
        ):
            self.assertIs(accepts_bound(SHORT_NET, 1, 2, number, value), False, (number, value))
        for i, j in product(range(3), repeat=2):
            right = (i, j) == (1, 2)
            self.assertIs(accepts_bound(SHORT_NET, i, j, 55, (walk, heights)), right, (i, j))

    def test_a_walk_that_goes_around_with_the_length_zero(self):
        net = (2, ((0, 1, 4, 4),))
        for many in range(4):
            walk = ((0, "high"), (0, "low")) * many
            self.assertIs(accepts_bound(net, 0, 0, 0, (walk, (3, 7))), True)
            self.assertIs(accepts_bound(net, 0, 1, 4, (walk + ((0, "high"),), (3, 7))), True)
            self.assertIs(accepts_bound(net, 0, 1, 4, (walk, (3, 7))), False)
        self.assertIs(accepts_bound(SHORT_NET, 0, 0, 5, (((0, "high"), (0, "low")), (0, 5, 5))), False)

    def test_the_walk_without_edges_only_from_an_event_to_itself(self):
        for i, j in product(range(3), repeat=2):
            self.assertIs(accepts_bound((3, ()), i, j, 0, ((), (4, 4, 4))), i == j)
            self.assertIs(accepts_bound(NET, i, j, 0, ((), (0, 5, 5))), i == j)
        self.assertIs(accepts_bound(NET, 0, 0, False, ((), (0, 5, 5))), False)
        self.assertIs(accepts_bound(NET, 0, 0, None, ((), (0, 5, 5))), False)
        self.assertIs(accepts_bound(NET, 0, 0, 0, ((), (0, 4, 5))), False)

    def test_evidence_of_none_changed(self):
        net = (4, ((0, 1, 5, 10), (1, 2, 0, None)))
        for chosen in ((2,), (2, 3)):
            self.assertIs(accepts_bound(net, 0, 2, None, ((0, 5, 5, 0), chosen)), True, chosen)
        self.assertIs(accepts_bound(net, 3, 2, None, ((0, 5, 5, 0), (0, 1, 2))), True)
        self.assertIs(accepts_bound(net, 3, 2, None, ((0, 5, 5, 0), (2,))), True)
        for value in (
            # A height.
            ((0, 4, 5, 0), (2,)), ((0, 5, 5), (2,)), ((0, 5, 5, 0, 0), (2,)), ([0, 5, 5, 0], (2,)), (None, (2,)),
            ((0, 5, 5, False), (2,)), ((0, 5, 5, None), (2,)),
            # An event: an edge leads to a chosen one, j is missing, i is there, or the tuple is not ascending.
            ((0, 5, 5, 0), (1, 2)), ((0, 5, 5, 0), (3,)), ((0, 5, 5, 0), (0, 1, 2)), ((0, 5, 5, 0), (0, 1, 2, 3)),
            ((0, 5, 5, 0), (3, 2)), ((0, 5, 5, 0), (2, 2)), ((0, 5, 5, 0), (2, 4)), ((0, 5, 5, 0), (-1, 2)),
            ((0, 5, 5, 0), [2]), ((0, 5, 5, 0), ()), ((0, 5, 5, 0), 2), ((0, 5, 5, 0), (2.0,)), ((0, 5, 5, 0), None),
            # The form.
            ((0, 5, 5, 0),), ((0, 5, 5, 0), (2,), ()), [(0, 5, 5, 0), (2,)], ((2,), (0, 5, 5, 0)),
            None, (), True, AnyEqual(),
        ):
            self.assertIs(accepts_bound(net, 0, 2, None, value), False, value)
        for number in (0, 5, False, "None", AnyEqual()):
            self.assertIs(accepts_bound(net, 0, 2, number, ((0, 5, 5, 0), (2,))), False)

    def test_wrong_choices(self):
        for chosen in WRONG_CHOICES:
            self.assertIs(accepts_bound((3, ()), 1, 2, None, ((0, 0, 0), chosen)), False, chosen)
        self.assertIs(accepts_bound((3, ()), 1, 0, None, ((0, 0, 0), (True,))), False)
        self.assertIs(accepts_bound((3, ()), 1, 0, None, ((0, 0, 0), (0,))), True)

    def test_no_evidence_of_none_for_an_event_with_itself_or_where_a_walk_leads(self):
        chosen_ones = [(0,), (1,), (2,), (0, 1), (0, 2), (1, 2), (0, 1, 2)]
        bounds = tight(NET)
        for i, j, chosen in product(range(3), range(3), chosen_ones):
            if bounds[i][j] is not None:
                self.assertIs(accepts_bound(NET, i, j, None, ((0, 5, 5), chosen)), False, (i, j, chosen))

    def test_nothing_is_accepted_for_a_net_that_cannot_be_kept(self):
        net = (2, ((0, 1, 10, 5),))
        self.assertIs(accepts_bound(net, 0, 1, 5, (((0, "high"),), (0, 5))), False)
        self.assertIs(accepts_bound(net, 0, 0, 0, ((), (0, 5))), False)
        self.assertIs(accepts_bound((3, net[1]), 0, 2, None, ((0, 5, 5), (2,))), False)


if __name__ == "__main__":
    unittest.main()
