"""Points 74 to 76, 82, 83 and 85: rows of news that are alike, the evidence for it, and shortest rows."""

import unittest
from itertools import combinations, permutations, product

from allbide.alike import accepts_alike, alike_evidence, are_alike, left_out, shortest
from allbide.effects import behind
from allbide.idle import reduced, reduction, remaining
from allbide.steps import layers, steps_of
from tests.oracles import are_told_apart
from tests.samples import AnyEqual, kept_pairs, later, like_rows, short_rows, some_rows

SMALL_NEWS = ((0, 0), (0, 1), (1, 0), (1, 1))


class AreAlikeTest(unittest.TestCase):
    """Points 74, 82, 83 and 85."""

    def test_rows_that_are_alike_and_rows_that_are_not(self):
        for first, second, right in (
            ((), (), True), ((), ((0, 0),), False), (((0, 7),), ((0, 7),), True), (((0, 7),), ((0, 8),), False),
            (((0, 7),), ((1, 7),), False), (((0, 7), (0, 7)), ((0, 7),), True), (((0, 7), (0, 9)), ((0, 9),), False),
            (((0, 7), (1, 3)), ((1, 3), (0, 7)), False), (((0, 7), (1, 3), (0, 7)), ((1, 3), (0, 7)), True),
            (((0, 7), (1, 3), (0, 7)), ((0, 7), (1, 3)), False), (((0, 7), (0, 9), (0, 7)), ((0, 9), (0, 7)), True),
            (((0, 7), (0, 8), (0, 9)), ((0, 7), (0, 9)), True), (((0, 9), (0, 8), (0, 7)), ((0, 9), (0, 7)), True),
            (((0, 7), (0, 9), (0, 8)), ((0, 7), (0, 8)), False), (((0, 7),) * 8, ((0, 7),) * 3, True),
        ):
            self.assertIs(are_alike(first, second), right, (first, second))
            self.assertIs(are_alike(second, first), right, (second, first))

    def test_point_85_rows_that_are_not_alike_differ_at_a_place(self):
        first, second = ((0, 7), (0, 9)), ((0, 9),)
        self.assertIs(are_alike(first, second), False)
        # The event 1 has to be at most 0 after the event 0, and was later.
        net, times = (2, ((0, 1, None, 0),)), (20, 20)
        self.assertEqual((behind(net, times, first)[1], behind(net, times, second)[1]), (7, 9))

    def test_rows_are_alike_if_no_told_place_has_different_times(self):
        answers = []
        rows = short_rows(3, SMALL_NEWS)
        pairs = list(combinations(rows, 2))[::3]
        for first, second in pairs + like_rows(170, 300, 3) + like_rows(171, 100, 6):
            answers.append(not are_told_apart(first, second))
            self.assertIs(are_alike(first, second), answers[-1], (first, second))
        self.assertGreater(min(answers.count(True), answers.count(False)), 100)

    def test_rows_are_alike_if_the_layers_of_the_remaining_steps_are_equal(self):
        for first, second in like_rows(172, 200, 3):
            equal = layers(remaining(steps_of(first))) == layers(remaining(steps_of(second)))
            self.assertIs(are_alike(first, second), equal)

    def test_rows_that_are_alike_lead_to_the_same_heights(self):
        compared = 0
        for k, (net, times) in enumerate(kept_pairs(173, 40, far=3)):
            for first, second in like_rows(174 + k, 20, net[0]):
                if are_alike(first, second):
                    compared += 1
                    self.assertEqual(behind(net, times, first), behind(net, times, second))
        self.assertGreater(compared, 200)

    def test_every_row_is_alike_to_itself(self):
        for row in some_rows(175, 60, 6):
            self.assertIs(are_alike(row, row), True)
            self.assertIs(are_alike(row, tuple(list(row))), True)

    def test_point_82_news_told_twice_and_put_ahead_or_behind(self):
        for row in some_rows(176, 100, 3, most=7, far=3):
            for k in range(len(row)):
                self.assertIs(are_alike(row[:k + 1] + row[k:], row), True)
        for first, second in like_rows(177, 150, 2):
            if are_alike(first, second):
                for news in SMALL_NEWS:
                    if max(len(first), len(second)) < 8:
                        self.assertIs(are_alike((news,) + first, (news,) + second), True)
                        self.assertIs(are_alike(first + (news,), second + (news,)), True)

    def test_point_83_events_renamed_and_times_put_later(self):
        for first, second in like_rows(178, 60, 3):
            right = are_alike(first, second)
            for many in (-400, 1, 33):
                self.assertIs(are_alike(later(first, many), later(second, many)), right)
            for order in permutations((5, 0, 3)):
                one, other = (tuple((order[event], time) for event, time in row) for row in (first, second))
                self.assertIs(are_alike(one, other), right)


class EvidenceTest(unittest.TestCase):
    """Point 76."""

    TWICE = ((0, 7), (0, 7))
    ONCE = ((0, 7),)

    def test_the_told_evidence(self):
        self.assertEqual(alike_evidence(self.TWICE, self.ONCE), (((0, 2), (1, 3)), ()))
        self.assertEqual(alike_evidence(self.ONCE, self.TWICE), ((), ((0, 2), (1, 3))))
        self.assertEqual(alike_evidence((), ()), ((), ()))
        self.assertIsNone(alike_evidence(((0, 7), (0, 9)), ((0, 9),)))
        for first, second in like_rows(179, 200, 3):
            value = alike_evidence(first, second)
            if are_alike(first, second):
                self.assertEqual(value, (reduction(steps_of(first)), reduction(steps_of(second))))
                self.assertIs(accepts_alike(first, second, value), True)
            else:
                self.assertIsNone(value)

    def test_evidence_that_is_accepted(self):
        for first, second, value in (
            (self.TWICE, self.ONCE, (((0, 2), (1, 3)), ())), (self.TWICE, self.ONCE, (((1, 3), (0, 2)), ())),
            (self.TWICE, self.TWICE, ((), ())), (self.TWICE, self.TWICE, (((0, 2),), ((0, 2),))), ((), (), ((), ())),
            (self.ONCE, self.ONCE, ((), ())), (self.TWICE, self.TWICE, (((0, 2), (1, 3)), ((1, 3), (0, 2)))),
            # What both leave need not be without idle steps, nor in the same sequence.
            (((0, 7), (0, 9)), ((0, 7), (0, 9)), (((0, 2),), ((0, 2),))),
            (((0, 9), (0, 7)), ((0, 9), (0, 7)), (((2, 0), (1, 3)), ((1, 3), (2, 0)))),
        ):
            self.assertIs(accepts_alike(first, second, value), True, (first, second, value))

    def test_reductions_changed_or_of_another_form(self):
        told = ((0, 2), (1, 3))
        for value in (
            # A pair less, more, or changed.
            (told[:1], ()), (told[1:], ()), ((), ()), (told + ((2, 3),), ()), (told, ((0, 1),)), (told * 2, ()),
            (((0, 2), (3, 1)), ()), (((2, 0), (1, 3)), ()), (((0, 3), (1, 2)), ()), (((0, 2), (1, True)), ()),
            (((False, 2), (1, 3)), ()), (((0, 2), (1, 4)), ()), (((0, 2), (-3, 3)), ()), ((told[0], (1,)), ()),
            # Of the other row, or of another form.
            ((), told), (told, told), (told,), (told, (), ()), [told, ()], ([*told], ()), (told, []), (told, None),
            (None, ()), (([0, 2], (1, 3)), ()), told, (), None, True, 0, "ab", AnyEqual(), (AnyEqual(), ()),
            (told, AnyEqual()), (told, 0), {told: ()},
        ):
            self.assertIs(accepts_alike(self.TWICE, self.ONCE, value), False, value)
        self.assertIs(accepts_alike(self.TWICE, self.ONCE, (told, ())), True)

    def test_reductions_of_other_rows(self):
        told = (((0, 2), (1, 3)), ())
        for first, second in (
            (self.ONCE, self.TWICE), (((0, 7), (0, 8)), self.ONCE), (self.TWICE, ((0, 8),)), (self.TWICE, ((1, 7),)),
            (((0, 7), (1, 7)), self.ONCE), (self.TWICE, ()), ((), self.ONCE), (self.TWICE + self.ONCE, self.ONCE),
        ):
            self.assertIs(accepts_alike(first, second, told), False, (first, second))

    def test_nothing_is_accepted_for_rows_that_are_not_alike(self):
        for first, second in like_rows(180, 200, 2):
            if not are_told_apart(first, second):
                continue
            one, other = steps_of(first), steps_of(second)
            ways = [reduction(one)[:k] for k in range(len(reduction(one)) + 1)]
            others = [reduction(other)[:k] for k in range(len(reduction(other)) + 1)]
            for value in product(ways, others):
                self.assertIsNotNone(reduced(one, value[0]))
                self.assertIs(accepts_alike(first, second, value), False)


class ShortestTest(unittest.TestCase):
    """Point 75."""

    def test_what_is_left_out(self):
        for row, out in (
            ((), ()), (((0, 7),), ()), (((0, 7), (0, 7), (1, 3)), (0,)), (((0, 7), (0, 9)), ()),
            (((0, 7),) * 8, (0, 1, 2, 3, 4, 5, 6)),
            (((0, 7), (0, 9), (0, 7)), (0,)), (((0, 7), (0, 8), (0, 9)), (1,)), (((0, 7), (1, 3), (0, 7)), (0,)),
            (((0, 9), (0, 7), (0, 8), (0, 9)), (0, 2)), (((0, 9), (0, 7), (0, 8)), ()),
        ):
            self.assertEqual(left_out(row), out, row)
            self.assertEqual(shortest(row), tuple(news for k, news in enumerate(row) if k not in out), row)

    def test_pieces_of_which_a_step_is_among_the_remaining_ones(self):
        for row in some_rows(181, 300, 3, far=3):
            steps = steps_of(row)
            gone = [index for index, _ in reduction(steps)]
            out = tuple(k for k in range(len(row)) if 2 * k in gone and 2 * k + 1 in gone)
            self.assertEqual(left_out(row), out)
            self.assertEqual(shortest(row), tuple(news for k, news in enumerate(row) if k not in out))

    def test_the_shortest_row_of_a_row_and_of_itself(self):
        shorter = 0
        for row in some_rows(182, 300, 3, far=3):
            short = shortest(row)
            shorter += short != row
            self.assertIs(are_alike(row, short), True)
            self.assertEqual(shortest(short), short)
            self.assertEqual(left_out(short), ())
        self.assertGreater(shorter, 50)

    def test_no_row_that_is_alike_has_fewer_pieces(self):
        rows = short_rows(3, SMALL_NEWS + ((0, 2),))
        fewest = {}
        for row in rows:
            fewest.setdefault(layers(remaining(steps_of(row))), len(row))
        for row in rows + [row for row in some_rows(183, 200, 2, far=1) if len(shortest(row)) <= 3]:
            kind = layers(remaining(steps_of(row)))
            if kind in fewest:
                self.assertEqual(len(shortest(row)), fewest[kind], row)


if __name__ == "__main__":
    unittest.main()
