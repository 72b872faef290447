"""Points 77 to 84: places of a further event, and the separation of rows of news that are not alike."""

import unittest
from itertools import permutations, product

from allbide.alike import accepts_alike, alike_evidence, are_alike
from allbide.effects import behind
from allbide.errors import BadValue
from allbide.idle import reduction
from allbide.places import accepts_separation, is_place, separation, time_at, told_places
from allbide.steps import steps_of
from tests.oracles import in_steps, places_by_words, some_places, stepped_at
from tests.samples import NO_INTEGERS, WRONG_PLACES, Numbers, later, like_rows, short_rows, some_rows

SMALL_NEWS = ((0, 0), (0, 1), (1, 0), (1, 1))


def time_by_steps(row, place):
    """The time to which the row leads at the place, as the oracle tells it."""
    return stepped_at(in_steps(row), place)


def row_pairs():
    """Pairs of rows of which many are alike, and many are not."""
    rows = short_rows(2, SMALL_NEWS)
    return list(product(rows, rows)) + like_rows(190, 250, 3) + like_rows(191, 60, 6)


def drawn_places(seed, many):
    """Possible places with arbitrary events, bounds and starts."""
    numbers = Numbers(seed)
    found = []
    while len(found) < many:
        upper, lower = ((numbers.below(6), numbers.between(-9, 9)) for _ in range(2))
        place = (
            numbers.choice((upper, upper, None)), numbers.choice((lower, lower, None)), numbers.between(-20, 20),
        )
        if is_place(place):
            found.append(place)
    return found


class IsPlaceTest(unittest.TestCase):
    """Point 77."""

    def test_possible_places(self):
        for place in (
            (None, None, 0), ((0, 0), None, 0), (None, (5, 0), 0), ((0, 3), (5, -4), 0), ((5, -2000), (0, -2000), 0),
            ((0, 2000), None, 10000), (None, (3, -2000), -10000), ((2, 3), (2, -3), 0), ((2, -3), (2, 3), 7),
            ((2, 3), (2, -2), 0), ((4, 2000), (4, -2000), 0), ((4, -2000), (4, 2000), 0), ((4, 2000), (4, 2000), 0),
            ((1, 0), (1, 0), -10000),
        ):
            self.assertIs(is_place(place), True, place)

    def test_both_sides_of_one_event(self):
        for one, other in product(range(-4, 5), repeat=2):
            for event in range(6):
                self.assertIs(is_place(((event, one), (event, other), 0)), one + other >= 0)
                self.assertIs(is_place(((event, one), ((event + 1) % 6, other), 0)), True)

    def test_all_events_and_bounds_to_their_ends(self):
        for event, bound in product(range(-1, 7), (-2001, -2000, 0, 2000, 2001)):
            right = 0 <= event <= 5 and -2000 <= bound <= 2000
            self.assertIs(is_place(((event, bound), None, 0)), right)
            self.assertIs(is_place((None, (event, bound), 0)), right)
        for start in (-10001, -10000, 10000, 10001):
            self.assertIs(is_place((None, None, start)), abs(start) == 10000)
            self.assertIs(is_place(((0, 1), (1, 1), start)), abs(start) == 10000)

    def test_values_that_are_none(self):
        for value in WRONG_PLACES:
            self.assertIs(is_place(value), False, value)


class TimeAtTest(unittest.TestCase):
    """Points 78 and 79."""

    def test_one_side_alone_and_both(self):
        row = ((0, 7), (1, 30), (0, 9))
        for place, time in (
            ((None, None, 5), 5), (((0, 0), None, 5), 9), (((0, 0), None, 8), 9), (((0, 0), None, 10), 10),
            (((0, 3), None, -100), 6), (((0, -3), None, -100), 12), ((None, (0, 0), 100), 7), ((None, (0, 2), 8), 8),
            ((None, (0, 2), 100), 9), ((None, (0, -2), 100), 5), (((1, 0), None, 0), 30), (((2, 0), None, 0), 0),
            ((None, (2, 0), 50), 50), (((0, 0), (0, 0), 100), 9), (((0, 1), (0, 1), 100), 8),
            (((0, 0), (1, -25), 100), 9), (((1, 5), (0, 0), 0), 9), (((1, 5), (0, 10), 0), 19),
            (((1, 21), (0, 10), 0), 9), (((1, 21), (0, 10), 8), 9), (((0, -2000), None, -10000), 2009),
        ):
            self.assertEqual(time_at(row, place), time, place)

    def test_upper_comes_before_lower_in_one_piece_of_news(self):
        self.assertEqual(time_at(((0, 7),), ((0, 4), (0, -4), -50)), 3)
        self.assertEqual(time_at(((0, 7),), ((0, 4), (0, -4), 50)), 3)
        self.assertEqual(time_at(((0, 7),), ((0, 4), (0, -3), 50)), 4)
        self.assertEqual(time_at(((0, 7),), ((0, 4), (0, -3), -50)), 3)

    def test_without_news_the_start_stays(self):
        for place in drawn_places(192, 30):
            self.assertEqual(time_at((), place), place[2])

    def test_as_the_oracle_tells_it(self):
        places = drawn_places(193, 40)
        for row in some_rows(194, 60, 6):
            for place in places:
                self.assertEqual(time_at(row, place), time_by_steps(row, place), (row, place))

    def test_in_a_net_that_has_the_event(self):
        # The event 5 is the further one; beginning with times that keep the net, the row leads to the same time.
        for row in some_rows(195, 25, 5):
            for upper, lower, start in drawn_places(196, 60):
                if 5 in [side[0] for side in (upper, lower) if side is not None]:
                    continue
                rules, times = [], [start] * 5 + [start]
                if upper is not None:
                    rules.append((5, upper[0], None, upper[1]))
                    times[upper[0]] = start + upper[1]
                if lower is not None:
                    rules.append((lower[0], 5, None, lower[1]))
                    if upper is None or upper[0] != lower[0]:
                        times[lower[0]] = start - lower[1]
                heights = behind((6, tuple(rules)), tuple(times), row)
                self.assertEqual(heights[5], time_at(row, (upper, lower, start)), (row, upper, lower, start))

    def test_rows_that_are_alike_lead_to_the_same_times(self):
        places = some_places(range(2), (-2, 0, 1), (-5, 0, 5))
        for first, second in row_pairs():
            if are_alike(first, second):
                for place in places:
                    self.assertEqual(time_at(first, place), time_at(second, place))


class SeparationTest(unittest.TestCase):
    """Points 79, 80 and 85, and what points 82 and 83 say of separations."""

    def test_the_example_of_point_85(self):
        self.assertEqual(separation(((0, 7), (0, 9)), ((0, 9),)), (None, (0, 0), 10000))

    def test_separations_worked_out_by_hand(self):
        for first, second, place in (
            ((), (), None), (((0, 7),), ((0, 7),), None), ((), ((0, 7),), ((0, 0), None, -10000)),
            (((0, 7),), ((0, 8),), ((0, 0), None, -10000)), (((3, 7),), ((1, 7),), ((1, 0), None, -10000)),
            (((0, 7), (0, 7)), ((0, 7),), None), (((5, 7), (2, 8)), ((5, 7),), ((2, 0), None, -10000)),
            # Raised to the same times, but lowered to others.
            (((0, 9), (0, 7)), ((0, 9), (0, 8)), (None, (0, 0), 10000)),
            (((4, 1), (5, 7), (5, 8)), ((4, 1), (5, 8)), (None, (5, 0), 10000)),
        ):
            self.assertEqual(separation(first, second), place, (first, second))
            self.assertEqual(separation(second, first), place, (second, first))

    def test_separations_at_places_with_both_sides(self):
        # Neither side alone tells these apart, as their greatest and least times are the same.
        self.assertEqual(separation(((0, 9), (0, 7)), ((0, 7), (0, 9))), ((0, 0), (0, 0), -10000))
        self.assertEqual(separation(((0, 9), (1, 3)), ((1, 3), (0, 9))), ((0, 5), (1, 0), -10000))
        self.assertEqual(separation(((0, 3), (1, 9)), ((1, 9), (0, 3))), ((0, -7), (1, 0), -10000))
        self.assertEqual(separation(((0, 7), (1, 7)), ((1, 7), (0, 7))), ((0, -1), (1, 0), -10000))

    def test_the_told_places_in_their_sequence(self):
        self.assertEqual(told_places(()), [])
        self.assertEqual(told_places(((3, 7),)), [
            ((3, 0), None, -10000), (None, (3, 0), 10000), ((3, 0), (3, 0), -10000), ((3, 0), (3, 0), 10000),
        ])
        # Of one event, bounds below 0 are passed over; those of 9 - 8 and of 8 - 7 - 1 and the like stand once.
        self.assertEqual(
            [place[0][1] for place in told_places(((0, 7), (0, 9), (0, 8)))[2::2]], [0, 1, 2],
        )
        self.assertEqual([place for place in told_places(((4, 3), (1, 9))) if place[:2] == ((4, -7), (1, 0))], [
            ((4, -7), (1, 0), -10000), ((4, -7), (1, 0), 10000),
        ])
        for first, second in row_pairs()[::4]:
            places = told_places(first + second)
            self.assertEqual(places, list(places_by_words(first, second)))
            self.assertEqual(len(places), len(set(places)))
            self.assertTrue(all(is_place(place) for place in places))

    def test_the_first_told_place_that_tells_them_apart(self):
        kinds = {}
        for first, second in row_pairs():
            places = [p for p in places_by_words(first, second) if time_by_steps(first, p) != time_by_steps(second, p)]
            found = separation(first, second)
            self.assertEqual(found, places[0] if places else None, (first, second))
            if found is not None:
                kind = (found[0] is None, found[1] is None, found[2])
                kinds[kind] = kinds.get(kind, 0) + 1
        self.assertEqual(set(kinds), {(False, True, -10000), (True, False, 10000), (False, False, -10000)})
        self.assertGreater(min(kinds.values()), 10)

    def test_none_exactly_if_the_rows_are_alike(self):
        answers = []
        for first, second in row_pairs():
            answers.append(are_alike(first, second))
            self.assertIs(separation(first, second) is None, answers[-1], (first, second))
        self.assertGreater(min(answers.count(True), answers.count(False)), 100)

    def test_the_greatest_rows(self):
        first = tuple((k % 6, 500 - 1000 * (k % 2)) for k in range(8))
        second = tuple(reversed(first))
        place = separation(first, second)
        self.assertIs(is_place(place), True)
        self.assertIs(accepts_separation(first, second, place), True)
        self.assertEqual(place, next(
            p for p in places_by_words(first, second) if time_by_steps(first, p) != time_by_steps(second, p)
        ))

    def test_point_82_news_told_twice(self):
        for row in some_rows(197, 60, 3, most=7, far=3):
            for k in range(len(row)):
                self.assertIsNone(separation(row[:k + 1] + row[k:], row))
        # With others between, the second one counts.
        first, second = ((0, 7), (0, 9), (0, 7)), ((0, 7), (0, 9))
        self.assertEqual(separation(first, second), ((0, 0), (0, 0), -10000))
        for first, second in row_pairs()[::5]:
            if separation(first, second) is None and max(len(first), len(second)) < 8:
                for news in SMALL_NEWS:
                    self.assertIsNone(separation((news,) + first, (news,) + second))
                    self.assertIsNone(separation(first + (news,), second + (news,)))

    def test_point_83_times_put_later_and_events_renamed(self):
        for first, second in like_rows(198, 40, 3):
            place = separation(first, second)
            for many in (-400, 1, 33):
                self.assertEqual(separation(later(first, many), later(second, many)), place)
            for order in permutations((5, 0, 3)):
                one, other = (tuple((order[event], time) for event, time in row) for row in (first, second))
                self.assertIs(separation(one, other) is None, place is None)
                if place is not None:
                    sides = [None if side is None else (order[side[0]], side[1]) for side in place[:2]]
                    self.assertIs(accepts_separation(one, other, (*sides, place[2])), True)


class JudgeTest(unittest.TestCase):
    """Points 79 and 81."""

    def test_told_and_drawn_places(self):
        answers = []
        places = drawn_places(199, 30)
        for first, second in row_pairs()[::3]:
            told = separation(first, second)
            if told is not None:
                self.assertIs(accepts_separation(first, second, told), True)
                self.assertIs(accepts_separation(second, first, told), True)
            for place in places:
                answers.append(time_by_steps(first, place) != time_by_steps(second, place))
                self.assertIs(accepts_separation(first, second, place), answers[-1], (first, second, place))
        self.assertGreater(min(answers.count(True), answers.count(False)), 100)

    def test_a_place_at_which_both_rows_lead_to_the_same_time(self):
        first, second = ((0, 7), (0, 9)), ((0, 9),)
        for place, right in (
            ((None, (0, 0), 10000), True), ((None, (0, 0), 8), True), ((None, (0, 0), 7), False),
            (((0, 0), None, -10000), False), (((0, 0), (0, 0), 10000), False), ((None, (1, 0), 10000), False),
            ((None, None, 10000), False), (((0, 0), (0, 1), 10000), True), (((0, 2), (0, -2), 10000), False),
            (((1, 0), (0, 0), 10000), True), (((0, 2), (0, 0), 10000), True), (((0, 1), (0, -1), 10000), False),
        ):
            self.assertEqual(time_by_steps(first, place) != time_by_steps(second, place), right, place)
            self.assertIs(accepts_separation(first, second, place), right, place)

    def test_values_of_other_kinds(self):
        first, second = ((0, 7), (0, 9)), ((0, 9),)
        for value in WRONG_PLACES:
            self.assertIs(accepts_separation(first, second, value), False, value)
        # The rows differ at these, but the places are not possible.
        for place in (((0, 1), (0, -2), 0), ((0, -500), (0, 499), 0), (None, (0, -2001), 10000)):
            self.assertIs(accepts_separation(((0, 7),), ((0, 9),), place), False, place)

    def test_never_both_are_accepted(self):
        places = some_places(range(2), (-1, 0, 1), (-3, 3))
        for first, second in row_pairs()[::2]:
            alike = alike_evidence(first, second)
            if alike is None:
                value = (reduction(steps_of(first)), reduction(steps_of(second)))
                self.assertIs(accepts_alike(first, second, value), False)
            else:
                self.assertIs(accepts_alike(first, second, alike), True)
                for place in places:
                    self.assertIs(accepts_separation(first, second, place), False)

    def test_time_at_refuses_places_that_are_not_possible(self):
        for place in (((0, 1), (0, -2), 0), ((6, 0), None, 0), (None, None, 10001), *WRONG_PLACES):
            with self.assertRaises(BadValue) as caught:
                time_at(((0, 7),), place)
            self.assertEqual(caught.exception.name, "place")
        for value in NO_INTEGERS:
            self.assertIs(is_place((None, None, value)), False)


if __name__ == "__main__":
    unittest.main()
