"""Points 52 to 59 and 61: states, limits, settled events, and the evidence for limits."""

import unittest
from itertools import permutations, product

from allbide.bounds import accepts_bound, bound_evidence
from allbide.effects import accepts_limits, behind, limit_evidence, limits, settled, states
from allbide.errors import NotPossible
from tests.oracles import all_fit, distances, is_right, right_heights, told_all
from tests.samples import (
    LOST_NETS, NET, NO_INTEGERS, SHORT_NET, AnyEqual, kept_pairs, later, negative, sample_nets, some_rows,
)


def cases(seed, nets, rows, most=8):
    """Nets that can be kept, with times that keep them and rows of news."""
    return [
        (net, times, row)
        for k, (net, times) in enumerate(kept_pairs(seed, nets))
        for row in some_rows(seed + k, rows, net[0], most)
    ]


def limits_by_marks(net, row, event):
    """The limits of an event, as point 53 says it."""
    bounds = distances(net)
    least = greatest = None
    for e, v in row:
        low = None if bounds[event][e] is None else v - bounds[event][e]
        high = None if bounds[e][event] is None else v + bounds[e][event]
        found = []
        for limit, mark in ((least, low), (greatest, high)):
            if limit is None:
                found.append(mark)
            else:
                limit = limit if low is None else max(limit, low)
                found.append(limit if high is None else min(limit, high))
        least, greatest = found
    return least, greatest


class StatesTest(unittest.TestCase):
    """Point 52."""

    def test_states_behind_each_piece_of_news(self):
        self.assertEqual(states(NET, (0, 5, 8), ((0, 7), (1, 30))), ((7, 12, 12), (20, 30, 30)))
        self.assertEqual(states(NET, (0, 5, 8), ((1, 30), (0, 7))), ((20, 30, 30), (7, 17, 30)))
        self.assertEqual(states(NET, (0, 5, 8), ((2, 8), (2, 8), (2, -2))), ((0, 5, 8), (0, 5, 8), (-7, -2, -2)))
        self.assertEqual(behind(NET, (0, 5, 8), ((1, 30), (0, 7))), (7, 17, 30))

    def test_without_news(self):
        for net, times in kept_pairs(80, 30):
            self.assertEqual(states(net, times, ()), ())
            self.assertEqual(behind(net, times, ()), times)

    def test_as_many_as_there_are_news_and_right_each_time(self):
        for net, times, row in cases(81, 60, 5):
            found = states(net, times, row)
            self.assertEqual(len(found), len(row))
            for k, heights in enumerate(found):
                self.assertEqual(heights, told_all(net, times, row[:k + 1]))
                self.assertEqual(behind(net, times, row[:k + 1]), heights)
                self.assertEqual(heights[row[k][0]], row[k][1])
                self.assertTrue(is_right(net, heights))

    def test_eight_pieces_of_news_and_the_farthest_times(self):
        net = (6, tuple((k, k + 1, 100, 100) for k in range(5)))
        times = tuple(100 * k for k in range(6))
        row = ((0, 500), (5, -500)) * 4
        ends = (tuple(500 + time for time in times), tuple(time - 1000 for time in times))
        self.assertEqual(states(net, times, row), ends * 4)


class LimitsTest(unittest.TestCase):
    """Points 53, 54, 56, 57 and 59."""

    def test_limits_with_none(self):
        for net, row, expected in (
            (NET, (), ((None, None),) * 3),
            (NET, ((0, 7),), ((7, 7), (12, 17), (12, None))),
            (NET, ((2, 7),), ((None, 2), (None, 7), (7, 7))),
            (NET, ((0, 7), (1, 30)), ((20, 20), (30, 30), (30, None))),
            (NET, ((1, 30), (0, 7)), ((7, 7), (17, 17), (30, None))),
            (NET, ((2, 7), (0, 3)), ((3, 3), (8, 8), (8, 8))),
            (NET, ((2, 7), (0, -5)), ((-5, -5), (0, 5), (7, 7))),
            (SHORT_NET, ((0, 7), (2, 100)), ((40, 40), (45, 45), (100, 100))),
            ((2, ()), ((0, 7), (0, 9)), ((9, 9), (None, None))),
            ((1, ()), ((0, -500),), ((-500, -500),)),
        ):
            self.assertEqual(limits(net, row), expected, (net, row))

    def test_as_point_53_says_it(self):
        sides = {}
        for net, _, row in cases(82, 80, 6):
            found = limits(net, row)
            self.assertEqual(found, tuple(limits_by_marks(net, row, c) for c in range(net[0])), (net, row))
            for least, greatest in found:
                sides[least is None, greatest is None] = sides.get((least is None, greatest is None), 0) + 1
                if least is not None and greatest is not None:
                    self.assertLessEqual(least, greatest)
        self.assertEqual(len(sides), 4)

    def test_point_54_what_a_row_does_to_every_height(self):
        for net, times, row in cases(83, 60, 4):
            starts = [times, tuple(time + 40 for time in times), told_all(net, times, row[::-1] + ((0, 9),))]
            for heights in starts:
                if max(heights) > 1000 or min(heights) < -1000:
                    continue
                found = behind(net, heights, row)
                for (least, greatest), old, new in zip(limits(net, row), heights, found):
                    old = old if least is None else max(old, least)
                    self.assertEqual(old if greatest is None else min(old, greatest), new)

    def test_point_54_no_other_pair(self):
        # Every height comes from some right heights, so that the limits are seen from far below and far above.
        for k, net in enumerate(sample_nets()[::17]):
            found = right_heights(net, -9, 9) if net[0] < 4 else []
            for row in some_rows(90 + k, 4, net[0], most=3, far=3) if found else []:
                for c, (least, greatest) in enumerate(limits(net, row)):
                    moved = {heights[c]: behind(net, heights, row)[c] for heights in found}
                    low, high = moved[min(moved)], moved[max(moved)]
                    self.assertEqual(low, min(moved) if least is None else least, (net, row))
                    self.assertEqual(high, max(moved) if greatest is None else greatest, (net, row))

    def test_point_56_news_that_fit_in_whatever_sequence(self):
        compared = 0
        for net, times, row in cases(84, 60, 4, most=4):
            row = tuple((event, times[event] + time // 12) for event, time in row)
            if not all_fit(net, row):
                continue
            bounds = distances(net)
            expected = []
            for c in range(net[0]):
                lows = [v - bounds[c][e] for e, v in row if bounds[c][e] is not None]
                highs = [v + bounds[e][c] for e, v in row if bounds[e][c] is not None]
                expected.append((max(lows, default=None), min(highs, default=None)))
            for other in permutations(row):
                compared += 1
                self.assertEqual(limits(net, other), tuple(expected))
        self.assertGreater(compared, 200)

    def test_point_57_two_rows_one_behind_the_other(self):
        for (net, _, first), second in product(cases(85, 40, 2, most=4), some_rows(86, 3, 1, most=4)):
            second = tuple((k % net[0], time) for k, (_, time) in enumerate(second))
            alone, before = limits(net, second), limits(net, first)
            for c, pair in enumerate(limits(net, first + second)):
                least, greatest = alone[c]
                expected = []
                for k, limit in enumerate(before[c]):
                    if limit is not None:
                        limit = limit if least is None else max(limit, least)
                        expected.append(limit if greatest is None else min(limit, greatest))
                    else:
                        expected.append(alone[c][k])
                self.assertEqual(pair, tuple(expected))

    def test_point_59_put_later_and_multiplied(self):
        for net, _, row in cases(87, 60, 4):
            found = limits(net, row)
            for many in (-300, 1, 44):
                put = tuple(tuple(None if limit is None else limit + many for limit in pair) for pair in found)
                self.assertEqual(limits(net, later(row, many)), put)
            opposite = tuple((event, -time) for event, time in row)
            expected = tuple(tuple(None if limit is None else -limit for limit in pair[::-1]) for pair in found)
            self.assertEqual(limits(negative(net), opposite), expected)


class SettledTest(unittest.TestCase):
    """Points 55 and 61."""

    def test_the_example_of_point_61(self):
        self.assertEqual(settled(NET, ((0, 7), (1, 30))), (20, 30, None))
        self.assertEqual(limits(NET, ((0, 7), (1, 30)))[0], (20, 20))

    def test_settled_events(self):
        for net, row, expected in (
            (NET, (), (None, None, None)), (NET, ((1, 30), (0, 7)), (7, 17, None)), (NET, ((2, 0),), (None, None, 0)),
            (NET, ((0, 0),), (0, None, None)), ((2, ((0, 1, 3, 3),)), ((0, -3),), (-3, 0)), ((1, ()), (), (None,)),
        ):
            self.assertEqual(settled(net, row), expected, (net, row))

    def test_both_limits_the_same_integer(self):
        for net, _, row in cases(88, 60, 5):
            expected = tuple(
                least if least == greatest and least is not None else None for least, greatest in limits(net, row)
            )
            self.assertEqual(settled(net, row), expected)
            if row:
                self.assertEqual(expected[row[-1][0]], row[-1][1])

    def test_a_settled_event_has_the_same_height_from_all_right_heights(self):
        answers = []
        for k, net in enumerate(sample_nets()[::19]):
            found = right_heights(net, -9, 9) if net[0] < 4 else []
            for row in some_rows(110 + k, 4, net[0], most=3, far=3) if found else []:
                ends = [behind(net, heights, row) for heights in found]
                for c, height in enumerate(settled(net, row)):
                    seen = {heights[c] for heights in ends}
                    answers.append(height is not None)
                    self.assertEqual(seen == {height}, answers[-1], (net, row))
                    self.assertIs(len(seen) == 1, answers[-1], (net, row))
        self.assertGreater(min(answers.count(True), answers.count(False)), 50)

    def test_a_settled_event_stays_so_if_later_news_fit(self):
        kept = 0
        for net, times, row in cases(89, 80, 5):
            row = tuple((event, times[event] + time // 8) for event, time in row)
            for k, news in enumerate(row):
                if all(all_fit(net, (news, other)) for other in row[k:]):
                    kept += 1
                    self.assertEqual(settled(net, row)[news[0]], news[1])
        self.assertGreater(kept, 100)


class LimitEvidenceTest(unittest.TestCase):
    """Point 58."""

    ROW = ((0, 7), (1, 30))

    def value(self):
        """Evidence for the limits of the event 2 in the net NET behind the row."""
        return (
            ((-5, (((1, "low"), (0, "low")), (0, 5, 5))), (None, ((0, 5, 5), (2,)))),
            ((0, (((1, "low"),), (0, 5, 5))), (None, ((0, 5, 5), (2,)))),
        )

    def test_evidence_that_is_accepted(self):
        self.assertEqual(limits(NET, self.ROW)[2], (30, None))
        self.assertIs(accepts_limits(NET, self.ROW, 2, (30, None), self.value()), True)
        self.assertIs(accepts_limits(NET, self.ROW, 2, (30, None), limit_evidence(NET, self.ROW, 2)), True)

    def test_evidence_for_all_limits(self):
        for net, _, row in cases(120, 40, 3):
            bounds = distances(net)
            for c, pair in enumerate(limits(net, row)):
                evidence = limit_evidence(net, row, c)
                self.assertIs(accepts_limits(net, row, c, pair, evidence), True, (net, row, c))
                self.assertEqual(len(evidence), len(row))
                for (e, _), ((number, shown), (other, more)) in zip(row, evidence):
                    self.assertEqual((number, other), (bounds[c][e], bounds[e][c]))
                    self.assertIs(accepts_bound(net, c, e, number, shown), True)
                    self.assertIs(accepts_bound(net, e, c, other, more), True)
                for other in ((None, None), (0, 0), (pair[0], None), (None, pair[1]), (pair[1], pair[0]), (7, 8)):
                    self.assertIs(accepts_limits(net, row, c, other, evidence), other == pair)

    def test_for_another_pair_or_event_or_row(self):
        value = self.value()
        for pair in (
            (30, 31), (29, None), (31, None), (None, None), (None, 30), (30, 30), (30,), (30, None, None), [30, None],
            None, (), True, 30, AnyEqual(), (AnyEqual(), AnyEqual()), (30, False), (30, "None"), (30.0, None),
        ):
            self.assertIs(accepts_limits(NET, self.ROW, 2, pair, value), False, pair)
        for event, row in ((0, self.ROW), (1, self.ROW), (2, self.ROW[:1]), (2, self.ROW[::-1]), (2, ()),
                           (2, self.ROW + self.ROW[1:]), (2, ((0, 7), (1, 31)))):
            self.assertIs(accepts_limits(NET, row, event, (30, None), value), False, (event, row))
        self.assertIs(accepts_limits(NET, ((0, 8), (1, 30)), 2, (30, None), value), True)

    def test_without_news(self):
        self.assertEqual(limit_evidence(NET, (), 2), ())
        self.assertIs(accepts_limits(NET, (), 2, (None, None), ()), True)
        for pair, value in (
            ((None, 0), ()), ((0, 0), ()), ((None,), ()), ([None, None], ()), ((None, None), []), ((None, None), None),
            ((None, None), ((),)), ((None, None), True), ((None, None), self.value()), ((None, None), AnyEqual()),
        ):
            self.assertIs(accepts_limits(NET, (), 2, pair, value), False, (pair, value))

    def test_true_and_false_are_no_integers(self):
        net, row = (2, ((0, 1, 0, 0),)), ((0, 1),)
        value = limit_evidence(net, row, 1)
        self.assertIs(accepts_limits(net, row, 1, (1, 1), value), True)
        for wrong in NO_INTEGERS:
            self.assertIs(accepts_limits(net, row, 1, (wrong, 1), value), False)
            self.assertIs(accepts_limits(net, row, 1, (1, wrong), value), False)
        (number, shown), other = value[0]
        self.assertEqual(number, 0)
        self.assertIs(accepts_limits(net, row, 1, (1, 1), (((False, shown), other),)), False)
        self.assertIs(accepts_limits(net, row, 1, (1, 1), ((other, (False, shown)),)), False)

    def test_a_number_a_walk_heights_a_set_or_a_form_changed(self):
        (back, there), last = self.value()
        self.assertEqual(back, (-5, (((1, "low"), (0, "low")), (0, 5, 5))))
        walk, heights = back[1]
        for item in (
            # A number, also with evidence of its own for other events.
            ((-4, back[1]), there), ((None, back[1]), there), ((5, back[1]), there), ((0, last[0][1]), there),
            (back, (10, there[1])), (back, (None, there[1][0])), ((-6, back[1]), there), ((True, back[1]), there),
            # A walk.
            ((-5, (walk[:1], heights)), there), ((-5, (walk[::-1], heights)), there), ((-5, ((), heights)), there),
            # Heights.
            ((-5, (walk, (0, 5, 6))), there), ((-5, (walk, (0, 4, 5))), there), ((-5, (walk, [0, 5, 5])), there),
            (back, (None, ((0, 4, 5), (2,)))), (back, (None, ((0, 5, 4), (2,)))), (back, (None, (None, (2,)))),
            # A set.
            (back, (None, ((0, 5, 5), (1,)))), (back, (None, ((0, 5, 5), (0, 2)))), (back, (None, ((0, 5, 5), ()))),
            (back, (None, ((0, 5, 5), [2]))), (back, (None, ((0, 5, 5), (1, 2)))),
            # The form.
            (back,), (back, there, there), [back, there], (there, back), (back, None), (None, there), None, (), True,
            ((-5,), there), ((-5, walk, heights), there), ([-5, back[1]], there), (back, (None,)), (back, ()),
            (AnyEqual(), there), (back, AnyEqual()), AnyEqual(),
        ):
            self.assertIs(accepts_limits(NET, self.ROW, 2, (30, None), (item, last)), False, item)
        right = (back, there)
        for value in ((right,), (right, last, last), (last, right), [right, last], None, (), True, AnyEqual()):
            self.assertIs(accepts_limits(NET, self.ROW, 2, (30, None), value), False, value)
        self.assertIs(accepts_limits(NET, self.ROW, 2, (30, None), (right, last)), True)

    def test_evidence_that_is_not_needed_is_asked_for_as_well(self):
        # The limits behind (0, 7), (1, 30) are the same whatever 0 was told, but its bounds have to be shown.
        row = ((0, 7), (1, 30))
        value = limit_evidence(NET, row, 1)
        self.assertIs(accepts_limits(NET, row, 1, (30, 30), value), True)
        for item in (None, (), ((0, None), (0, None)), value[1]):
            self.assertIs(accepts_limits(NET, row, 1, (30, 30), (item, value[1])), False)


class LostNetTest(unittest.TestCase):
    """What point 60 says of nets that cannot be kept."""

    def test_refused_by_all_also_by_the_judge(self):
        for net in LOST_NETS:
            for row in ((), ((0, 7),)):
                for function, more in (
                    (limits, ()), (settled, ()), (limit_evidence, (1,)), (accepts_limits, (1, (None, None), ())),
                    (accepts_limits, (1, None, None)),
                ):
                    with self.assertRaises(NotPossible) as caught:
                        function(net, row, *more)
                    self.assertEqual(caught.exception.why, "net")

    def test_bound_evidence_is_what_limit_evidence_consists_of(self):
        for event in range(3):
            shown = limit_evidence(SHORT_NET, ((event, 3),), 1)
            self.assertIs(accepts_bound(SHORT_NET, 1, event, *shown[0][0]), True)
            mixed = tuple(
                (number, bound_evidence(SHORT_NET, *ends))
                for (number, _), ends in zip(shown[0], ((1, event), (event, 1)))
            )
            pair = limits(SHORT_NET, ((event, 3),))[1]
            self.assertIs(accepts_limits(SHORT_NET, ((event, 3),), 1, pair, (mixed,)), True)


if __name__ == "__main__":
    unittest.main()
