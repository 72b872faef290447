"""Points 30 to 39 and 41: joint news, repaired heights, repairs and their judge."""

import unittest
from itertools import permutations, product

from allbide.bounds import shows_kept, tight
from allbide.errors import NotPossible
from allbide.nets import is_walk, keeps, walk_length
from allbide.repair import accepts_repair, fit, repair, repaired, told
from tests.oracles import all_fit, is_right, right_heights, told_all, told_one
from tests.samples import (
    NO_INTEGERS, SHORT_NET, WRONG_WALKS, AnyEqual, Numbers, kept_pairs, later, negative, sample_nets,
)

TIMES = (0, 5, 30)
ROW = ((0, 7),)
REPAIR = ((7, 12, 30), ((0, 0, 7, ()), (1, 5, 12, ((0, "low"),))))


def some_joint_news(seed, size, many, around=(0,) * 6, far=12):
    """Joint news of events of a net of this size, told times not far from these."""
    numbers = Numbers(seed)
    found = []
    for _ in range(many):
        events = list(range(size))
        row = []
        for _ in range(numbers.below(size + 1)):
            event = events.pop(numbers.below(len(events)))
            row.append((event, around[event] + numbers.between(-far, far)))
        found.append(tuple(row))
    return found


def cases(seed, nets, rows):
    """Nets that can be kept, with times that keep them and joint news that fit or do not."""
    return [
        (net, times, row)
        for k, (net, times) in enumerate(kept_pairs(seed, nets))
        for row in some_joint_news(seed + k, net[0], rows, times)
    ]


class FitTest(unittest.TestCase):
    """Points 30 and 31."""

    def test_joint_news_that_fit_and_that_do_not(self):
        for row, right in (
            (((0, 7), (2, 67)), True), (((0, 7), (2, 68)), False),
            (((0, 7), (2, 12)), True), (((0, 7), (2, 11)), False),
            (((0, 7), (1, 12), (2, 67)), True), (((0, 7), (1, 17), (2, 16)), False), (((0, 7), (1, 18)), False),
            (((0, 7), (1, 11)), False), ((), True), (((2, -500),), True), (((0, -500), (1, -490)), True),
            (((0, 500), (1, 500)), False), (((1, 100), (2, 155)), True), (((1, 100), (2, 156)), False),
        ):
            for other in permutations(row):
                self.assertIs(fit(SHORT_NET, other), right, other)

    def test_six_pieces_of_news(self):
        net = (6, tuple((k, k + 1, 1, 2) for k in range(5)))
        row = tuple((k, k) for k in range(6))
        self.assertIs(fit(net, row), True)
        for k in range(6):
            self.assertIs(fit(net, row[:k] + ((k, k + 9),) + row[k + 1:]), False)

    def test_they_fit_if_right_heights_have_these_times(self):
        # In such nets right heights with told times from -2 to 2 are found within the box.
        answers = []
        for net in sample_nets()[::6]:
            if net[0] > 3 or not right_heights(net, -8, 8):
                continue
            found = right_heights(net, -8, 8)
            for row in some_joint_news(40 + len(answers), net[0], 6, far=2):
                answers.append(fit(net, row))
                shown = any(all(heights[event] == time for event, time in row) for heights in found)
                self.assertIs(answers[-1], shown, (net, row))
        self.assertGreater(min(answers.count(True), answers.count(False)), 50)

    def test_each_two_of_them(self):
        answers = []
        for net, _, row in cases(41, 60, 8):
            answers.append(fit(net, row))
            self.assertIs(answers[-1], all_fit(net, row), (net, row))
        self.assertGreater(min(answers.count(True), answers.count(False)), 50)


class ToldTest(unittest.TestCase):
    """Point 32, and what points 34 and 38 say of one piece of news."""

    def test_the_example_of_point_41(self):
        self.assertEqual(told(SHORT_NET, TIMES, (0, 7)), (7, 12, 30))

    def test_raised_and_lowered(self):
        for news, expected in (
            ((0, -5), (-5, 5, 30)), ((0, -6), (-6, 4, 30)), ((0, -30), (-30, -20, 30)), ((0, -31), (-31, -21, 29)),
            ((1, 20), (10, 20, 30)), ((1, 40), (30, 40, 40)), ((1, -5), (-10, -5, 30)), ((2, 3), (-2, 3, 3)),
            ((2, 61), (1, 6, 61)), ((2, 60), (0, 5, 60)), ((2, 30), TIMES),
        ):
            self.assertEqual(told(SHORT_NET, TIMES, news), expected, news)

    def test_a_bound_that_is_none_has_no_effect(self):
        net = (3, ((0, 1, None, 4),))
        self.assertEqual(told(net, (0, 0, 0), (0, 300)), (300, 0, 0))
        self.assertEqual(told(net, (0, 0, 0), (0, -300)), (-300, -296, 0))
        self.assertEqual(told(net, (0, 0, 0), (1, -300)), (0, -300, 0))
        self.assertEqual(told(net, (0, 0, 0), (1, 300)), (296, 300, 0))
        self.assertEqual(told((1, ()), (1000,), (0, -500)), (-500,))

    def test_the_farthest_heights(self):
        net = (6, tuple((k, k + 1, 100, 100) for k in range(5)))
        times = tuple(100 * k for k in range(6))
        self.assertEqual(told(net, times, (0, 500)), (500, 600, 700, 800, 900, 1000))
        self.assertEqual(told(net, times, (5, -500)), (-1000, -900, -800, -700, -600, -500))
        self.assertEqual(told(net, (500, 600, 700, 800, 900, 1000), (5, 500)), times)
        net = (2, ((0, 1, None, -100),) * 12)
        self.assertEqual(told(net, (1000, -1000), (0, -500)), (-500, -1000))
        self.assertEqual(told(net, (1000, -1000), (1, 500)), (1000, 500))

    def test_as_point_32_says_it(self):
        for (net, times), k in product(kept_pairs(42, 120), range(-2, 3)):
            for event in range(net[0]):
                news = (event, times[event] + 7 * k)
                heights = told(net, times, news)
                self.assertEqual(heights, told_one(net, times, news))
                self.assertEqual(heights[event], news[1])
                self.assertTrue(is_right(net, heights))
                if k == 0:
                    self.assertEqual(heights, times)
                self.assertEqual(told(net, heights, news), heights)


class RepairedTest(unittest.TestCase):
    """Points 33, 34, 37 to 39."""

    def test_several_pieces_of_news(self):
        self.assertEqual(repaired(SHORT_NET, TIMES, ((1, 100), (2, 102))), (90, 100, 102))
        self.assertEqual(repaired(SHORT_NET, TIMES, ((2, 102), (1, 100))), (90, 100, 102))
        self.assertEqual(repaired(SHORT_NET, TIMES, ((0, 9), (1, 14), (2, 14))), (9, 14, 14))
        # The mark of the news that asks for most counts, whichever stands first.
        net = (3, ((0, 1, 3, None), (0, 2, 8, None), (1, 2, None, 50)))
        for row in permutations(((1, 10), (2, 12))):
            self.assertEqual(repaired(net, (20, 30, 40), row), (4, 10, 12))
        net = (3, ((0, 1, None, 3), (0, 2, None, 8)))
        for row in permutations(((1, 10), (2, 12))):
            self.assertEqual(repaired(net, (0, 0, 0), row), (7, 10, 12))

    def test_without_news_nothing_moves(self):
        for net, times in kept_pairs(43, 60):
            self.assertEqual(repaired(net, times, ()), times)
            self.assertEqual(repair(net, times, ()), (times, ()))
            self.assertIs(accepts_repair(net, times, (), (times, ())), True)

    def test_news_that_fit_are_told_one_by_one_in_every_sequence(self):
        moving = 0
        for net, times, row in cases(44, 80, 6):
            if not all_fit(net, row):
                with self.assertRaises(NotPossible) as caught:
                    repaired(net, times, row)
                self.assertEqual(caught.exception.why, "apart")
                continue
            heights = repaired(net, times, row)
            moving += heights != times
            self.assertTrue(is_right(net, heights))
            self.assertEqual([heights[event] for event, _ in row], [time for _, time in row])
            for other in list(permutations(row))[:24]:
                self.assertEqual(repaired(net, times, other), heights)
                self.assertEqual(told_all(net, times, other), heights)
            one_by_one = times
            for news in row:
                one_by_one = told(net, one_by_one, news)
            self.assertEqual(one_by_one, heights)
        self.assertGreater(moving, 100)

    def test_news_that_do_not_fit_told_one_behind_the_other(self):
        apart = 0
        for net, times, row in cases(45, 60, 8):
            for (e, v), (f, w) in permutations(row, 2):
                if not all_fit(net, ((e, v), (f, w))):
                    apart += 1
                    self.assertIs(fit(net, ((e, v), (f, w))), False)
                    heights = told(net, told(net, times, (e, v)), (f, w))
                    self.assertNotEqual(heights[e], v)
                    self.assertEqual(heights[f], w)
        self.assertGreater(apart, 100)

    def test_point_34_every_event_moves_as_little_as_it_must(self):
        moves = stays = 0
        for k, net in enumerate(sample_nets()[::11]):
            found = right_heights(net, -9, 9) if net[0] < 4 else []
            kept = [heights for heights in found if all(-1 <= height <= 1 for height in heights)]
            for times, row in product(kept[:4], some_joint_news(46 + k, net[0], 5, far=3)):
                if not all_fit(net, row):
                    continue
                heights = repaired(net, times, row)
                others = [other for other in found if all(other[event] == time for event, time in row)]
                self.assertIn(heights, others)
                for c, (old, new) in enumerate(zip(times, heights)):
                    moves, stays = moves + (old != new), stays + (old == new)
                    if new > old:
                        self.assertGreaterEqual(min(other[c] for other in others), new)
                    elif new < old:
                        self.assertLessEqual(max(other[c] for other in others), new)
                    else:
                        self.assertIn(old, [other[c] for other in others])
        self.assertGreater(min(moves, stays), 100)

    def test_point_38_the_same_news_again(self):
        for net, times, row in cases(47, 60, 4):
            if all_fit(net, row):
                heights = repaired(net, times, row)
                self.assertEqual(repaired(net, heights, row), heights)
                self.assertEqual(repair(net, heights, row), (heights, ()))
            present = tuple((event, times[event]) for event, _ in row)
            self.assertEqual(repaired(net, times, present), times)

    def test_point_39_put_later_and_multiplied(self):
        for net, times, row in cases(48, 60, 4):
            if not all_fit(net, row):
                continue
            heights = repaired(net, times, row)
            for many in (-400, -1, 3, 444):
                put = tuple(time + many for time in times)
                self.assertEqual(repaired(net, put, later(row, many)), tuple(height + many for height in heights))
            turned = tuple(-time for time in times)
            opposite = tuple((event, -time) for event, time in row)
            self.assertEqual(repaired(negative(net), turned, opposite), tuple(-height for height in heights))

    def test_the_farthest_heights(self):
        net = (6, tuple((k, k + 1, 100, None) for k in range(5)))
        times = tuple(100 * k for k in range(6))
        self.assertEqual(repaired(net, times, ((0, 500),)), (500, 600, 700, 800, 900, 1000))
        self.assertEqual(repaired(net, times, ((3, -500), (5, -300))), (-800, -700, -600, -500, -400, -300))
        self.assertEqual(repaired(net, times, ((5, -500),)), (-1000, -900, -800, -700, -600, -500))
        net = (6, tuple((k, k + 1, None, 100) for k in range(5)))
        self.assertEqual(repaired(net, (1000,) * 6, ((0, -500),)), (-500, -400, -300, -200, -100, 0))
        self.assertEqual(repaired(net, (1000,) * 6, ((0, -500), (5, -10))), (-500, -400, -300, -200, -100, -10))


class ToldRepairTest(unittest.TestCase):
    """Points 35 and 36: what `repair` returns."""

    def test_the_example_of_the_interface(self):
        self.assertEqual(repair(SHORT_NET, TIMES, ROW), REPAIR)
        self.assertIs(accepts_repair(SHORT_NET, TIMES, ROW, REPAIR), True)

    def test_repairs_of_many_nets(self):
        moving = 0
        for net, times, row in cases(49, 100, 6):
            if not all_fit(net, row):
                for function, more in ((repaired, ()), (repair, ()), (accepts_repair, (None,))):
                    with self.assertRaises(NotPossible) as caught:
                        function(net, times, row, *more)
                    self.assertEqual(caught.exception.why, "apart")
                continue
            value = repair(net, times, row)
            self.assertIs(accepts_repair(net, times, row, value), True, (net, times, row))
            heights, moves = value
            self.assertEqual(heights, repaired(net, times, row))
            self.assertEqual([move[0] for move in moves], [c for c in range(net[0]) if times[c] != heights[c]])
            for move in moves:
                moving += 1
                self.assertEqual(move[1:3], (times[move[0]], heights[move[0]]))
                self.assertTrue(self.is_explained(net, row, move), (net, times, row, move))
        self.assertGreater(moving, 300)

    def is_explained(self, net, row, move):
        """Tell whether the walk explains the move, as point 35 says it."""
        event, old, new, walk = move
        for e, v in row:
            if new > old and is_walk(net, event, e, walk) and v - walk_length(net, walk) == new:
                return True
            if new < old and is_walk(net, e, event, walk) and v + walk_length(net, walk) == new:
                return True
        return False


class JudgeTest(unittest.TestCase):
    """Point 36: whoever wrote an accepted repair, its heights are the repaired heights."""

    def refuse(self, value, times=TIMES, row=ROW):
        self.assertIs(accepts_repair(SHORT_NET, times, row, value), False, value)

    def test_a_height_changed(self):
        moves = REPAIR[1]
        for heights in (
            (8, 12, 30), (7, 13, 30), (7, 12, 31), (7, 11, 30), (7, 12), (7, 12, 30, 30), [7, 12, 30], (), None, True,
            (7, 12.0, 30), ("7", 12, 30), AnyEqual(),
        ):
            self.refuse((heights, moves))
        # Heights that are right and have the times of the news, but move more than they must.
        self.assertIs(shows_kept(SHORT_NET, (7, 13, 30)), True)
        self.refuse(((7, 13, 30), (moves[0], (1, 5, 13, ((0, "low"),)))))
        self.refuse(((7, 12, 31), (*moves, (2, 30, 31, ((1, "low"), (0, "low"))))))
        self.refuse(((7, 12, 31), (*moves, (2, 30, 31, ()))))
        # Right heights without the times of the news, and such with them that are not right.
        self.refuse((TIMES, ()))
        self.refuse(((8, 13, 30), ((0, 0, 8, ()), (1, 5, 13, ((0, "low"),)))))
        self.refuse(((7, 5, 30), (moves[0],)))

    def test_a_move_changed(self):
        first, second = REPAIR[1]
        walk = ((0, "low"),)
        for move in (
            (0, 5, 12, walk), (2, 5, 12, walk), (True, 5, 12, walk), (1.0, 5, 12, walk), (-1, 5, 12, walk),
            (1, 4, 12, walk), (1, 12, 12, walk), (1, None, 12, walk), (1, 5, 13, walk), (1, 5, 5, walk),
            (1, 5, 12.0, walk), (1, 12, 5, walk), (None, 5, 12, walk), (AnyEqual(), 5, 12, walk),
            (1, AnyEqual(), 12, walk), (1, 5, AnyEqual(), walk),
            (1, 5, 12), (1, 5, 12, walk, walk), [1, 5, 12, walk], None, (), 1, True, AnyEqual(), "move",
        ):
            self.refuse((REPAIR[0], (first, move)))
        self.assertIs(accepts_repair(SHORT_NET, TIMES, ROW, (REPAIR[0], (first, second))), True)

    def test_true_and_false_are_no_integers(self):
        net, times, row = (2, ((0, 1, 0, 0),)), (0, 0), ((0, 1),)
        right = ((1, 1), ((0, 0, 1, ()), (1, 0, 1, ((0, "low"),))))
        self.assertIs(accepts_repair(net, times, row, right), True)
        for value in (
            ((True, 1), right[1]), ((1, True), right[1]),
            (right[0], ((False, 0, 1, ()), right[1][1])), (right[0], ((0, False, 1, ()), right[1][1])),
            (right[0], ((0, 0, True, ()), right[1][1])), (right[0], (right[1][0], (True, 0, 1, ((0, "low"),)))),
            (right[0], (right[1][0], (1, 0, 1, ((False, "low"),)))),
        ):
            self.assertIs(accepts_repair(net, times, row, value), False, value)
        for value in NO_INTEGERS:
            self.assertIs(accepts_repair(net, times, row, (right[0], ((0, value, 1, ()), right[1][1]))), False)

    def test_a_walk_changed(self):
        first, second = REPAIR[1]
        for walk in (
            (), ((0, "high"),), ((0, "low"), (0, "high")), ((1, "low"), (0, "low")), ((1, "low"),), ((2, "high"),),
            ((0, "low"), (0, "high"), (0, "low")), *WRONG_WALKS,
        ):
            self.refuse((REPAIR[0], (first, (1, 5, 12, walk))))
        for walk in (((0, "high"),), ((0, "high"), (0, "low")), *WRONG_WALKS):
            self.refuse((REPAIR[0], ((0, 0, 7, walk), second)))

    def test_moves_too_few_too_many_or_in_another_sequence(self):
        heights, (first, second) = REPAIR
        for moves in (
            (), (first,), (second,), (second, first), (first, second, second), (first, first, second),
            (first, second, (2, 30, 30, ())), (first, second, (2, 30, 30, ((1, "low"), (0, "low")))),
            (first, second, None), [first, second], None, True, "", AnyEqual(), {},
        ):
            self.refuse((heights, moves))

    def test_values_of_other_kinds(self):
        heights, moves = REPAIR
        for value in (
            None, True, 0, (), (heights,), (heights, moves, ()), [heights, moves], (moves, heights), heights, moves,
            "ab", AnyEqual(), {heights: moves},
        ):
            self.refuse(value)

    def test_a_walk_that_goes_around_with_the_length_zero(self):
        net, times, row = (2, ((0, 1, 4, 4),)), (0, 4), ((0, 7),)
        around = ((0, "high"), (0, "low"))
        for many, more in product(range(4), range(4)):
            moves = ((0, 0, 7, around * many), (1, 4, 11, ((0, "low"),) + around * more))
            self.assertIs(accepts_repair(net, times, row, ((7, 11), moves)), True)
        lowered = ((-7, -3), ((0, 0, -7, around), (1, 4, -3, around + ((0, "high"),))))
        self.assertIs(accepts_repair(net, times, ((0, -7),), lowered), True)
        # Around from another event, or with another length.
        for walk in (around[::-1], ((0, "high"),), ((0, "low"), (0, "high"), (0, "low"), (0, "low"))):
            value = ((7, 11), ((0, 0, 7, walk), (1, 4, 11, ((0, "low"),))))
            self.assertIs(accepts_repair(net, times, row, value), False)
        net = (2, ((0, 1, 3, 4),))
        for walk, right in (((), True), (around, False)):
            value = ((7, 10), ((0, 0, 7, walk), (1, 3, 10, ((0, "low"),))))
            self.assertIs(accepts_repair(net, (0, 3), row, value), right)

    def test_a_walk_of_a_raise_does_not_explain_a_lower(self):
        self.assertIs(accepts_repair(
            SHORT_NET, TIMES, ((0, -40),), ((-40, -30, 20), ((0, 0, -40, ()), (1, 5, -30, ((0, "high"),)),
                                                             (2, 30, 20, ((2, "high"),)))),
        ), True)
        for walk in (((0, "low"),), ((0, "high"), (0, "low")), ()):
            self.refuse(((-40, -30, 20), ((0, 0, -40, ()), (1, 5, -30, walk), (2, 30, 20, ((2, "high"),)))),
                        row=((0, -40),))

    def test_a_walk_to_any_of_the_news_with_its_length(self):
        row = ((1, 100), (2, 102))
        for walk, right in (
            (((0, "high"),), True), (((2, "high"),), False), ((), False), (((0, "low"),), False),
        ):
            value = ((90, 100, 102), ((0, 0, 90, walk), (1, 5, 100, ()), (2, 30, 102, ())))
            self.assertIs(accepts_repair(SHORT_NET, TIMES, row, value), right, walk)
        # News that lie as far apart as they can explain each other.
        row = ((0, 7), (1, 12))
        for walk in ((), ((0, "low"),)):
            value = ((7, 12, 30), ((0, 0, 7, ()), (1, 5, 12, walk)))
            self.assertIs(accepts_repair(SHORT_NET, TIMES, row, value), True)

    def test_the_times_before_count(self):
        self.assertIs(keeps(SHORT_NET, (1, 6, 30)), True)
        self.refuse(REPAIR, times=(1, 6, 30))
        self.refuse(REPAIR, row=((0, 8),))
        self.refuse(REPAIR, row=((0, 7), (2, 31)))
        self.refuse(REPAIR, row=())
        self.assertIs(accepts_repair(SHORT_NET, TIMES, ((0, 7), (2, 30)), REPAIR), True)

    def test_accepted_repairs_have_the_repaired_heights(self):
        accepted = 0
        for k, net in enumerate(sample_nets()[40::37]):
            found = right_heights(net, -4, 4) if net[0] < 4 else []
            for row in some_joint_news(60 + k, net[0], 3, far=2):
                if not found or not all_fit(net, row):
                    continue
                times = min(found, key=lambda heights: sum(abs(height) for height in heights))
                expected, moves = repair(net, times, row)
                walks = {move[0]: move[3] for move in moves}
                for heights in found:
                    value = (heights, tuple(
                        (c, times[c], heights[c], walks.get(c, ())) for c in range(net[0]) if times[c] != heights[c]
                    ))
                    right = accepts_repair(net, times, row, value)
                    accepted += right
                    self.assertIs(right, heights == expected)
        self.assertGreater(accepted, 5)

    def test_news_at_tight_bounds(self):
        bounds = tight(SHORT_NET)
        for i, j in product(range(3), repeat=2):
            if i != j:
                row = ((i, 100), (j, 100 + bounds[i][j]))
                self.assertIs(fit(SHORT_NET, row), True)
                value = repair(SHORT_NET, TIMES, row)
                self.assertIs(accepts_repair(SHORT_NET, TIMES, row, value), True)
                self.assertIs(fit(SHORT_NET, ((i, 100), (j, 101 + bounds[i][j]))), False)


if __name__ == "__main__":
    unittest.main()
