"""Points 42 to 49 and 51: rows that fit, witnesses and barriers, windows, and fitting beginnings."""

import unittest
from itertools import permutations, product

from allbide.bounds import shows_kept, tight
from allbide.errors import NotPossible
from allbide.fitting import accepts_evidence, evidence_for, fits, fitting_beginning, window
from allbide.nets import is_walk, walk_length
from allbide.repair import repaired
from tests.oracles import all_fit, distances, is_right, right_heights, told_all
from tests.samples import (
    LOST_NETS, NET, NO_INTEGERS, SHORT_NET, WRONG_WALKS, AnyEqual, Numbers, kept_pairs, later, sample_nets, some_rows,
)


def cases(seed, nets, rows, far=12):
    """Nets that can be kept, with times that keep them and rows of up to eight pieces of news, often fitting ones."""
    numbers = Numbers(seed)
    found = []
    for net, times in kept_pairs(seed, nets):
        for _ in range(rows):
            shift = numbers.below(4) * numbers.below(2)
            row = []
            for _ in range(numbers.below(9)):
                event = numbers.below(net[0])
                row.append((event, times[event] + numbers.between(-shift, shift) * numbers.between(0, far) // far))
            found.append((net, times, tuple(row)))
    return found


class FitsTest(unittest.TestCase):
    """Points 42, 43 and 47."""

    def test_the_example_of_point_51(self):
        self.assertIs(fits(NET, ((0, 7), (1, 20))), False)
        self.assertIs(fits(NET, ((0, 7), (2, 30))), True)

    def test_rows(self):
        for row, right in (
            ((), True), (((2, 500),), True), (((0, -500), (1, 500)), False), (((0, 7), (1, 12)), True),
            (((0, 7), (1, 17), (2, 17)), True), (((0, 7), (1, 17), (2, 16)), False), (((0, 7), (1, 11)), False),
            (((2, 12), (0, 7)), True), (((2, 11), (0, 7)), False), (((0, 7), (2, 500)), True),
        ):
            self.assertIs(fits(NET, row), right, row)

    def test_news_of_the_same_event_fit_exactly_if_they_have_the_same_time(self):
        for net in (NET, SHORT_NET, (3, ())):
            for event, time, other in product(range(3), (-3, 0, 7), (-3, 0, 7)):
                self.assertIs(fits(net, ((event, time), (event, other))), time == other)
        self.assertIs(fits(NET, ((0, 7), (1, 12)) * 4), True)
        self.assertIs(fits(NET, ((0, 7), (1, 12)) * 3 + ((0, 7), (1, 13))), False)

    def test_point_43_right_heights_have_the_times(self):
        answers = []
        for k, net in enumerate(sample_nets()[::9]):
            found = right_heights(net, -9, 9) if net[0] < 4 else []
            for row in some_rows(70 + k, 8, net[0], most=3, far=2) if found else []:
                shown = any(all(heights[event] == time for event, time in row) for heights in found)
                answers.append(fits(net, row))
                self.assertIs(answers[-1], shown, (net, row))
        self.assertGreater(min(answers.count(True), answers.count(False)), 50)

    def test_point_43_the_same_times_in_every_sequence(self):
        answers = []
        for net, times, row in cases(71, 120, 6):
            row = row[:4]
            answers.append(fits(net, row))
            self.assertIs(answers[-1], all_fit(net, row), (net, row))
            found = {told_all(net, times, other) for other in permutations(row)}
            if answers[-1]:
                joint = tuple({event: (event, time) for event, time in row}.values())
                self.assertEqual(found, {repaired(net, times, joint)})
            else:
                self.assertGreater(len(found), 1, (net, times, row))
        self.assertGreater(min(answers.count(True), answers.count(False)), 50)

    def test_point_47_parts_fewer_rules_and_times_put_later(self):
        for net, _, row in cases(72, 60, 4):
            right = fits(net, row)
            for many in (-300, 1, 50):
                self.assertIs(fits(net, later(row, many)), right)
            if right:
                for k in range(len(row)):
                    self.assertIs(fits(net, row[:k] + row[k + 1:]), True)
                for k in range(len(net[1])):
                    self.assertIs(fits((net[0], net[1][:k] + net[1][k + 1:]), row), True)


class WitnessTest(unittest.TestCase):
    """Points 44 to 46: witnesses."""

    def test_the_told_witness_event_by_event(self):
        for net, row, expected in (
            (NET, ((0, 7), (2, 30)), (7, 12, 30)),
            (NET, (), (0, 5, 5)),
            (NET, ((1, 20),), (10, 20, 20)),
            (NET, ((2, 20),), (15, 20, 20)),
            (SHORT_NET, ((2, 20),), (-40, -35, 20)),
            # Without a low mark the least high one counts, and 0 without any.
            (NET, ((2, 0), (2, 0)), (-5, 0, 0)),
            ((2, ((0, 1, 5, None),)), ((1, 20),), (15, 20)),
            ((2, ((0, 1, None, 5),)), ((0, 20),), (20, 25)),
            ((3, ((0, 2, None, 5), (1, 2, None, 9))), ((0, 20), (1, 10)), (20, 10, 19)),
            ((3, ((0, 2, 5, None), (1, 2, 9, None))), ((2, 20),), (15, 11, 20)),
            ((3, ((0, 2, 5, None), (1, 2, 9, None))), ((0, 20), (1, 10)), (20, 10, 25)),
            # An event whose time was found before counts for those behind it.
            ((3, ((0, 1, None, 5), (1, 2, None, 7))), ((0, 3),), (3, 8, 15)),
            ((3, ((0, 1, None, 5), (1, 2, 1, 7))), (), (0, 5, 6)),
            ((3, ((0, 1, 2, None), (2, 1, 4, None))), ((1, 3),), (1, 3, -1)),
            ((4, ()), ((2, 9), (2, 9)), (0, 0, 9, 0)),
            ((1, ()), (), (0,)), ((1, ()), ((0, -500),), (-500,)),
        ):
            self.assertEqual(evidence_for(net, row), ("fits", expected), (net, row))
            self.assertEqual(self.expected(net, row), expected, (net, row))

    def expected(self, net, row):
        """The told witness as point 46 says it."""
        bounds, times = distances(net), dict(row)
        for c in range(net[0]):
            if c in times:
                continue
            lows = [v - bounds[c][e] for e, v in times.items() if bounds[c][e] is not None]
            highs = [v + bounds[e][c] for e, v in times.items() if bounds[e][c] is not None]
            times[c] = max(lows) if lows else min(highs) if highs else 0
        return tuple(times[c] for c in range(net[0]))

    def test_told_witnesses_of_many_rows(self):
        for net, _, row in cases(73, 80, 6):
            if all_fit(net, row):
                self.assertEqual(evidence_for(net, row), ("fits", self.expected(net, row)), (net, row))

    def test_witnesses_that_are_accepted(self):
        row = ((0, 7), (2, 30))
        for heights in ((7, 12, 30), (7, 17, 30), (7, 15, 30)):
            self.assertIs(accepts_evidence(NET, row, ("fits", heights)), True)
        self.assertIs(accepts_evidence(NET, (), ("fits", (10 ** 20, 10 ** 20 + 5, 10 ** 30))), True)
        self.assertIs(accepts_evidence(NET, ((0, 7), (0, 7)), ("fits", (7, 12, 12))), True)

    def test_witnesses_changed_or_of_other_kinds(self):
        row = ((0, 7), (2, 30))
        for heights in (
            (8, 13, 30), (7, 12, 31), (7, 11, 30), (7, 18, 30), (7, 31, 30), (7, 12), (7, 12, 30, 30), [7, 12, 30],
            (7, 12.0, 30), (7, 12, True), (7, None, 30), (), None, True, 0, "fits", AnyEqual(), {7: 12},
        ):
            self.assertIs(accepts_evidence(NET, row, ("fits", heights)), False, heights)
        for value in NO_INTEGERS:
            self.assertIs(accepts_evidence((2, ()), ((0, 1),), ("fits", (value, 0))), False)
            self.assertIs(accepts_evidence((2, ()), ((0, 1),), ("fits", (1, value))), False)
        self.assertIs(accepts_evidence(NET, ((0, 7), (0, 8)), ("fits", (7, 12, 12))), False)
        self.assertIs(accepts_evidence(NET, ((0, 7), (0, 8)), ("fits", (8, 13, 13))), False)

    def test_evidence_of_another_form(self):
        row = ((0, 7), (2, 30))
        right = (7, 12, 30)
        self.assertIs(accepts_evidence(NET, row, ("fits", right)), True)
        for value in (
            ("barred", right), ("Fits", right), ("", right), (None, right), (True, right), (b"fits", right),
            (AnyEqual(), right), (right, "fits"), ("fits",), ("fits", right, right), ["fits", right], ("fits", *right),
            None, True, 0, (), "fits", right, AnyEqual(), {"fits": right},
        ):
            self.assertIs(accepts_evidence(NET, row, value), False, value)


class BarrierTest(unittest.TestCase):
    """Points 44 to 46: barriers."""

    def test_the_first_barrier(self):
        for net, row, i, j in (
            (NET, ((0, 7), (1, 20)), 0, 1), (NET, ((1, 20), (0, 7)), 1, 0), (NET, ((0, 7), (1, 11)), 1, 0),
            (NET, ((1, 11), (0, 7)), 0, 1), (NET, ((1, 3), (1, 4)), 0, 1), (NET, ((1, 4), (1, 3)), 1, 0),
            # Of several ones the first indexes, whatever the lengths.
            (NET, ((2, 0), (0, 7), (1, 40)), 0, 1), (NET, ((0, 7), (2, 12), (1, 18), (1, 90)), 0, 2),
            (NET, ((0, 7), (0, 7), (1, 18)), 0, 2), (NET, ((1, 18), (0, 7), (0, 7)), 1, 0),
            (NET, ((0, 7), (1, 12), (1, 14), (1, 13)), 1, 2), (NET, ((2, 90), (1, 40), (0, 7), (1, 30)), 2, 1),
            (NET, ((2, 5),) * 6 + ((2, 9), (2, 7)), 0, 6),
        ):
            self.assertIs(fits(net, row), False)
            word, (first, second, walk) = evidence_for(net, row)
            self.assertEqual((word, first, second), ("barred", i, j), row)
            self.assertTrue(is_walk(net, row[i][0], row[j][0], walk))
            self.assertEqual(walk_length(net, walk), tight(net)[row[i][0]][row[j][0]])

    def test_first_barriers_of_many_rows(self):
        barred = 0
        for net, _, row in cases(74, 120, 6):
            bounds = distances(net)
            barriers = [
                (i, j) for (i, (e, v)), (j, (f, w)) in product(enumerate(row), enumerate(row))
                if bounds[e][f] is not None and bounds[e][f] < w - v
            ]
            word, shown = evidence_for(net, row)
            self.assertEqual(word, "barred" if barriers else "fits")
            self.assertIs(fits(net, row), not barriers)
            self.assertIs(accepts_evidence(net, row, (word, shown)), True, (net, row))
            if barriers:
                barred += 1
                i, j, walk = shown
                self.assertEqual((i, j), min(barriers))
                self.assertTrue(is_walk(net, row[i][0], row[j][0], walk))
                self.assertEqual(walk_length(net, walk), bounds[row[i][0]][row[j][0]])
        self.assertGreater(barred, 100)

    def test_barriers_that_are_accepted(self):
        around = ((0, "high"), (0, "low"))
        for row, barrier in (
            (((0, 7), (1, 20)), (0, 1, ((0, "high"),))),
            (((0, 7), (1, 23)), (0, 1, around + ((0, "high"),))),
            (((1, 3), (1, 4)), (0, 1, ())),
            # Around with the length 5, and not from the least index on.
            (((0, 3), (0, 9)), (0, 1, around)), (((2, 0), (0, 3), (0, 9), (1, 8)), (1, 2, around)),
            (((0, 7), (2, 11)), (1, 0, ((1, "low"), (0, "low")))),
        ):
            self.assertIs(accepts_evidence(NET, row, ("barred", barrier)), True, (row, barrier))

    def test_barriers_changed_or_of_other_kinds(self):
        row, walk = ((2, 12), (0, 7), (1, 20)), ((0, "high"),)
        self.assertIs(accepts_evidence(NET, row, ("barred", (1, 2, walk))), True)
        for barrier in (
            (2, 1, walk), (0, 2, walk), (1, 0, walk), (1, 1, walk), (2, 2, walk), (1, 3, walk), (3, 2, walk),
            (-2, 2, walk), (1, -1, walk), (True, 2, walk), (1.0, 2, walk), (1, 2.0, walk), (None, 2, walk),
            (1, None, walk), (AnyEqual(), 2, walk), (1, AnyEqual(), walk),
            (1, 2, ()), (1, 2, ((0, "low"),)), (1, 2, walk * 2), (1, 2, [*walk]), (1, 2, None),
            (1, 2, walk + ((0, "low"),)), (1, 2, ((0, "high"), (0, "low"), (0, "high"))),
            (1, 2), (1, 2, walk, walk), [1, 2, walk], (), None, True, 0, "barred", AnyEqual(),
        ):
            self.assertIs(accepts_evidence(NET, row, ("barred", barrier)), False, barrier)
        for value in WRONG_WALKS:
            self.assertIs(accepts_evidence(NET, row, ("barred", (1, 2, value))), False, value)
        for word in ("fits", "Barred", "bar", None, AnyEqual(), b"barred"):
            self.assertIs(accepts_evidence(NET, row, (word, (1, 2, walk))), False, word)
        self.assertIs(accepts_evidence(NET, (), ("barred", (0, 0, ()))), False)
        # Indexes below 0 name no piece of news, also where one counted from the end would be right.
        self.assertIs(accepts_evidence(NET, ((1, 20), (0, 7)), ("barred", (1, 0, walk))), True)
        for i, j in ((-1, 0), (1, -2), (-1, -2)):
            self.assertIs(accepts_evidence(NET, ((1, 20), (0, 7)), ("barred", (i, j, walk))), False)

    def test_the_length_has_to_be_less(self):
        for time, right in ((16, False), (17, False), (18, True)):
            self.assertIs(accepts_evidence(NET, ((0, 7), (1, time)), ("barred", (0, 1, ((0, "high"),)))), right)
        for time, right in ((3, False), (2, False), (4, True)):
            self.assertIs(accepts_evidence(NET, ((1, 3), (1, time)), ("barred", (0, 1, ()))), right)

    def test_the_same_index_twice(self):
        for net, walk in product((NET, SHORT_NET, (3, ())), ((), ((0, "high"), (0, "low")))):
            self.assertIs(accepts_evidence(net, ((0, 7),), ("barred", (0, 0, walk))), False)

    def test_a_barrier_in_a_net_that_cannot_be_kept(self):
        net = (2, ((0, 1, 10, 5),))
        below = ((0, "high"), (0, "low"))
        self.assertIs(accepts_evidence(net, ((0, 7),), ("barred", (0, 0, below))), True)
        self.assertIs(accepts_evidence(net, ((1, 3), (0, 7),), ("barred", (1, 1, below * 5))), True)
        self.assertIs(accepts_evidence(net, ((0, 7), (1, 13)), ("barred", (0, 1, ((0, "high"),)))), True)
        self.assertIs(accepts_evidence(net, ((0, 7), (1, 12)), ("barred", (0, 1, ((0, "high"),)))), False)
        self.assertIs(accepts_evidence(net, ((0, 7),), ("barred", (0, 0, ()))), False)
        self.assertIs(accepts_evidence(net, (), ("barred", (0, 0, below))), False)

    def test_no_witness_in_a_net_that_cannot_be_kept(self):
        for net in LOST_NETS:
            for heights in product((-1, 0, 1, 5, 10), repeat=min(net[0], 3)):
                self.assertIs(accepts_evidence(net, (), ("fits", heights + (0,) * (net[0] - 3))), False)

    def test_point_45_exactly_one_of_the_two_words(self):
        for net, _, row in cases(75, 30, 5):
            right = all_fit(net, row)
            self.assertIs(accepts_evidence(net, row, evidence_for(net, row)), True)
            for other in ((), ((0, 0),), row[1:], row[:1], later(row, 1)):
                word, shown = evidence_for(net, other)
                if word != ("fits" if right else "barred"):
                    self.assertIs(accepts_evidence(net, row, (word, shown)), False, (net, row, word, shown))
                elif accepts_evidence(net, row, (word, shown)) and right:
                    self.assertTrue(is_right(net, shown))


class WindowTest(unittest.TestCase):
    """Point 48."""

    def test_windows_with_none_on_either_side(self):
        for net, row, expected in (
            (NET, ((0, 7), (2, 15)), ((7, 7), (12, 15), (15, 15))),
            (NET, ((0, 7),), ((7, 7), (12, 17), (12, None))),
            (NET, ((2, 7),), ((None, 2), (None, 7), (7, 7))),
            (NET, (), ((None, None),) * 3),
            (SHORT_NET, ((0, 7), (0, 7)), ((7, 7), (12, 17), (12, 67))),
            (SHORT_NET, ((1, 20), (2, 72)), ((12, 15), (20, 20), (72, 72))),
            ((2, ()), ((0, 500),), ((500, 500), (None, None))),
            ((2, ((0, 1, None, 3),)), ((0, 500),), ((500, 500), (None, 503))),
            ((2, ((0, 1, None, 3),)), ((1, -500),), ((-503, None), (-500, -500))),
        ):
            self.assertEqual(tuple(window(net, row, event) for event in range(net[0])), expected, (net, row))

    def test_a_further_piece_of_news_fits_within_the_window(self):
        sides = [0, 0, 0, 0]
        for net, times, row in cases(76, 120, 4):
            row = row[:7]
            if not all_fit(net, row):
                for event in range(net[0]):
                    with self.assertRaises(NotPossible) as caught:
                        window(net, row, event)
                    self.assertEqual(caught.exception.why, "apart")
                continue
            for c in range(net[0]):
                least, greatest = window(net, row, c)
                sides[(least is None) + 2 * (greatest is None)] += 1
                if least is not None and greatest is not None:
                    self.assertLessEqual(least, greatest)
                near = [side + d for side in (least, greatest, times[c]) if side is not None for d in (-1, 0, 1)]
                for x in near + [-500, 500]:
                    within = (least is None or least <= x) and (greatest is None or x <= greatest)
                    self.assertIs(fits(net, row + ((c, x),)), within)
        self.assertGreater(min(sides), 20)


class FittingBeginningTest(unittest.TestCase):
    """Point 49."""

    def test_beginnings(self):
        for row, expected in (
            ((), 0), (((0, 7),), 1), (((0, 7), (2, 12), (1, 13), (0, 8)), 2), (((0, 7), (2, 13), (1, 13), (0, 8)), 3),
            (((0, 7), (0, 8)), 1), (((0, 7),) * 8, 8), (((0, 7),) * 7 + ((0, 8),), 7), (((0, 7), (0, 8), (0, 7)), 1),
            (((0, 7), (1, 12), (2, 11), (2, 12)), 2),
        ):
            self.assertEqual(fitting_beginning(NET, row), expected, row)

    def test_each_beginning_with_fewer_pieces_fits_and_none_with_more_does(self):
        found = {}
        for net, _, row in cases(77, 80, 6):
            many = fitting_beginning(net, row)
            found[many] = found.get(many, 0) + 1
            for k in range(len(row) + 1):
                self.assertIs(all_fit(net, row[:k]), k <= many, (net, row))
                self.assertIs(fits(net, row[:k]), k <= many)
        self.assertGreater(min(found.get(k, 0) for k in range(9)), 3)


class LostNetTest(unittest.TestCase):
    """What point 50 says of nets that cannot be kept: the functions refuse them, the judge does not."""

    def test_refused_by_the_functions_alone(self):
        for net in LOST_NETS:
            for row in ((), ((0, 7),), ((0, 7), (0, 8))):
                for function, more in ((fits, ()), (evidence_for, ()), (window, (1,)), (fitting_beginning, ())):
                    with self.assertRaises(NotPossible) as caught:
                        function(net, row, *more)
                    self.assertEqual(caught.exception.why, "net")
                right = len(row) == 2
                self.assertIs(accepts_evidence(net, row, ("barred", (0, 1, ()))), right)
            self.assertIs(shows_kept(net, (0,) * net[0]), False)


if __name__ == "__main__":
    unittest.main()
