"""Points 64 to 67, 70 and 71: idle steps, remaining steps, and reductions."""

import unittest
from itertools import product

from allbide.idle import idle_steps, is_idle_by, reduced, reduction, remaining
from allbide.steps import layers, stepped, steps_of
from tests.oracles import are_idle, remaining_by_words, some_places, stepped_at
from tests.samples import NO_INTEGERS, AnyEqual, exchanged, kept_pairs, later_steps, some_rows, some_steps

PLACES = some_places((0, 1), range(-3, 4), (-9, 0, 9))
STEPS = (("raise", 0, 7), ("lower", 0, 7), ("raise", 0, 9), ("lower", 0, 9))


def short_steps(most):
    """All tuples of at most so many raises and lowers of two events by two times."""
    words = list(product(("raise", "lower"), (0, 1), (0, 1)))
    return [steps for many in range(most + 1) for steps in product(words, repeat=many)]


def all_reductions(steps, left, value=()):
    """All right reductions, as point 67 says it, each with what it leaves."""
    yield value, tuple(steps[index] for index in left)
    for at, by in product(range(len(left)), repeat=2):
        if are_idle([steps[index] for index in left], at, by):
            yield from all_reductions(steps, left[:at] + left[at + 1:], value + ((left[at], left[by]),))


class IsIdleByTest(unittest.TestCase):
    """Point 64."""

    def check(self, steps, index, by, right):
        self.assertIs(is_idle_by(steps, index, by), right, (steps, index, by))
        self.assertIs(is_idle_by(exchanged(steps), index, by), right, (exchanged(steps), index, by))

    def test_by_one_behind_it(self):
        between = ((), (("lower", 0, 6),), (("lower", 1, 3),), (("raise", 1, 3),), (("lower", 0, 99), ("raise", 0, 3)))
        for time, right in ((6, False), (7, True), (8, True), (500, True), (-500, False)):
            for steps in between:
                self.check((("raise", 0, 7), *steps, ("raise", 0, time)), 0, len(steps) + 1, right)

    def test_by_one_before_it(self):
        for time, right in ((6, False), (7, False), (8, True), (500, True), (-500, False)):
            for steps in ((), (("raise", 1, 3),), (("lower", 0, 7),), (("lower", 0, 99), ("raise", 0, 3))):
                self.check((("raise", 0, time), *steps, ("raise", 0, 7)), len(steps) + 1, 0, right)

    def test_a_step_between_both_that_does_not_commute(self):
        for lowered, right in (
            (("lower", 0, 6), False), (("lower", 1, 7), False), (("lower", 1, 99), False), (("lower", 0, 7), True),
            (("lower", 0, 8), True), (("raise", 0, 6), True), (("raise", 1, 99), True),
        ):
            for steps in ((lowered,), (lowered, ("lower", 0, 9)), (("lower", 0, 9), lowered)):
                self.check((("raise", 0, 9), *steps, ("raise", 0, 7)), len(steps) + 1, 0, right)
            # One that stands before or behind both does not matter.
            self.check((lowered, ("raise", 0, 9), ("raise", 0, 7)), 2, 1, True)
            self.check((("raise", 0, 9), ("raise", 0, 7), lowered), 1, 0, True)

    def test_equal_steps_and_an_index_with_itself(self):
        for many in range(1, 6):
            steps = (("raise", 3, 7),) * many
            for index, by in product(range(many), repeat=2):
                self.check(steps, index, by, index < by)

    def test_other_words_and_other_events(self):
        for other in (("lower", 0, 7), ("lower", 0, 9), ("raise", 1, 7), ("raise", 1, 9), ("lower", 1, 7)):
            for steps in ((("raise", 0, 7), other), (other, ("raise", 0, 7))):
                self.check(steps, 0, 1, False)
                self.check(steps, 1, 0, False)

    def test_as_point_64_says_it(self):
        answers = []
        for steps in some_steps(150, 250, 2, far=2, most=9):
            for index, by in product(range(len(steps)), repeat=2):
                answers.append(are_idle(steps, index, by))
                self.assertIs(is_idle_by(steps, index, by), answers[-1], (steps, index, by))
        self.assertGreater(min(answers.count(True), answers.count(False)), 300)


class IdleStepsTest(unittest.TestCase):
    """Points 64, 65 and 71."""

    def test_all_idle_steps_ascending(self):
        self.assertEqual(idle_steps(STEPS), (0, 3))
        self.assertEqual(idle_steps(()), ())
        self.assertEqual(idle_steps((("raise", 0, 7),) * 16), tuple(range(15)))
        for steps in some_steps(151, 200, 3, far=3, most=16):
            many = range(len(steps))
            expected = tuple(index for index in many if any(are_idle(steps, index, by) for by in many))
            self.assertEqual(idle_steps(steps), expected)

    def test_point_65_an_idle_step_left_out_at_every_place(self):
        for steps in short_steps(3) + some_steps(152, 40, 2, far=2, most=6):
            for index in idle_steps(steps):
                other = steps[:index] + steps[index + 1:]
                for place in PLACES[::7]:
                    self.assertEqual(stepped_at(other, place), stepped_at(steps, place), (steps, index))

    def test_point_65_an_idle_step_left_out_in_nets(self):
        left_out = 0
        for k, (net, times) in enumerate(kept_pairs(153, 60, far=5)):
            for steps in some_steps(154 + k, 4, min(net[0], 2), most=10, far=6):
                for index in idle_steps(steps):
                    left_out += 1
                    other = steps[:index] + steps[index + 1:]
                    self.assertEqual(stepped(net, times, other), stepped(net, times, steps))
        self.assertGreater(left_out, 200)

    def test_point_71_put_later_or_exchanged(self):
        for steps in some_steps(155, 100, 2, most=12):
            idle, left = idle_steps(steps), remaining(steps)
            for many in (-400, 1, 77):
                self.assertEqual(idle_steps(later_steps(steps, many)), idle)
                self.assertEqual(remaining(later_steps(steps, many)), later_steps(left, many))
            self.assertEqual(idle_steps(exchanged(steps)), idle)
            self.assertEqual(remaining(exchanged(steps)), exchanged(left))
            self.assertEqual(reduction(exchanged(steps)), reduction(steps))


class RemainingTest(unittest.TestCase):
    """Points 66 and 70."""

    def test_remaining_steps(self):
        self.assertEqual(remaining(STEPS), (("lower", 0, 7), ("raise", 0, 9)))
        self.assertEqual(remaining(()), ())
        self.assertEqual(remaining((("raise", 0, 7),) * 16), (("raise", 0, 7),))
        # The first (0, 7) is idle, not the last one: what stands between moves events that the last one moves again.
        self.assertEqual(remaining(steps_of(((0, 7), (1, 3), (0, 7)))), steps_of(((1, 3), (0, 7))))
        row = tuple((k, 10 * k) for k in range(6))
        self.assertEqual(remaining(steps_of(row)), steps_of(row))

    def test_the_first_idle_step_again_and_again(self):
        for steps in short_steps(3) + some_steps(156, 300, 3, far=3, most=16):
            self.assertEqual(remaining(steps), remaining_by_words(steps), steps)

    def test_point_70_no_step_is_idle_or_stands_twice(self):
        for row in some_rows(157, 300, 3, far=3):
            left = remaining(steps_of(row))
            self.assertLessEqual(len(left), 16)
            line = tuple(step for layer in layers(left) for step in layer)
            self.assertEqual(idle_steps(left), ())
            self.assertEqual(idle_steps(line), ())
            self.assertEqual(len(set(line)), len(line))

    def test_they_do_the_same_as_all_steps(self):
        for steps in some_steps(158, 60, 2, far=2):
            for place in PLACES[::3]:
                self.assertEqual(stepped_at(remaining(steps), place), stepped_at(steps, place))
        for k, (net, times) in enumerate(kept_pairs(159, 60, far=5)):
            for steps in some_steps(160 + k, 4, net[0], most=16, far=9):
                self.assertEqual(stepped(net, times, remaining(steps)), stepped(net, times, steps))


class ReductionTest(unittest.TestCase):
    """Point 67."""

    def test_the_told_reduction(self):
        self.assertEqual(reduction(STEPS), ((0, 2), (3, 1)))
        self.assertEqual(reduction(()), ())
        self.assertEqual(reduction(remaining(STEPS)), ())
        # Each time by the first step by which it is idle, and with the numbers of the whole tuple.
        self.assertEqual(reduction((("raise", 0, 7),) * 4), ((0, 1), (1, 2), (2, 3)))
        self.assertEqual(reduction((("raise", 0, 9), ("raise", 0, 7), ("raise", 0, 8))), ((1, 0), (2, 0)))
        self.assertEqual(reduction((("raise", 0, 5), ("raise", 0, 4), ("raise", 0, 9))), ((0, 2), (1, 2)))
        self.assertEqual(reduction((("lower", 0, 5), ("raise", 0, 6), ("lower", 0, 4))), ((0, 2),))

    def test_each_time_the_first_idle_step_by_the_first_one(self):
        for steps in some_steps(161, 200, 2, far=3, most=16):
            left, expected = list(range(len(steps))), []
            while True:
                rest = [steps[index] for index in left]
                pairs = [
                    (at, by) for at, by in product(range(len(rest)), repeat=2) if are_idle(rest, at, by)
                ]
                if not pairs:
                    break
                at, by = min(pairs)
                expected.append((left[at], left[by]))
                del left[at]
            self.assertEqual(reduction(steps), tuple(expected))
            self.assertEqual(reduced(steps, reduction(steps)), remaining(steps))

    def test_reductions_made_of_other_idle_steps(self):
        self.assertEqual(reduced(STEPS, ()), STEPS)
        self.assertEqual(reduced(STEPS, ((0, 2),)), STEPS[1:])
        self.assertEqual(reduced(STEPS, ((3, 1),)), STEPS[:3])
        self.assertEqual(reduced(STEPS, ((3, 1), (0, 2))), STEPS[1:3])
        steps = (("raise", 0, 7),) * 4
        self.assertEqual(reduced(steps, ((2, 3), (0, 3), (1, 3))), steps[:1])
        self.assertEqual(reduced(steps, ((1, 3),)), steps[:3])
        found = 0
        for steps in some_steps(162, 100, 2, far=1, most=5):
            for value, left in all_reductions(steps, list(range(len(steps)))):
                found += 1
                self.assertEqual(reduced(steps, value), left, (steps, value))
        self.assertGreater(found, 200)

    def test_idle_only_among_the_steps_that_are_still_there(self):
        # The last raise is idle by the first one only once the lower between both is left out.
        steps = (("raise", 0, 9), ("lower", 0, 6), ("raise", 0, 7), ("lower", 0, 5))
        self.assertIsNone(reduced(steps, ((2, 0),)))
        self.assertEqual(reduced(steps, ((1, 3), (2, 0))), (steps[0], steps[3]))
        self.assertIsNone(reduced(steps, ((2, 0), (1, 3))))
        # A step that was left out makes no other one idle.
        steps = (("raise", 0, 7), ("raise", 0, 8), ("raise", 0, 9))
        self.assertEqual(reduced(steps, ((0, 1), (1, 2))), steps[2:])
        self.assertIsNone(reduced(steps, ((1, 2), (0, 1))))

    def test_right_pairs_of_pairs_by_the_words(self):
        answers = []
        for steps in some_steps(163, 60, 2, far=1, most=4):
            right = dict(all_reductions(steps, list(range(len(steps)))))
            pairs = list(product(range(len(steps)), repeat=2))
            for value in [(one,) for one in pairs] + [(one, other) for one in pairs for other in pairs]:
                answers.append(value in right)
                self.assertEqual(reduced(steps, value), right.get(value), (steps, value))
        self.assertGreater(min(answers.count(True), answers.count(False)), 30)

    def test_pairs_turned_twice_left_out_or_of_other_kinds(self):
        for value in (
            ((2, 0),), ((1, 3),), ((0, 2), (0, 2)), ((0, 2), (1, 3)), ((0, 0),), ((0, 1),), ((0, 3),), ((2, 1),),
            ((0, 2), (3, 1), (1, 2)), ((0, 2), (3, 0)), ((0, 4),), ((4, 0),), ((0, -2),), ((-4, 2),), ((-1, 1),),
            ((0, 100),), ((False, 2),), ((0, 2.0),), ((3, True),), ((0, 2), (3, True)),
            ((0,),), ((0, 2, 2),), ([0, 2],), [(0, 2)], [], (0, 2), (0,), ((0, 2), None), (None,), ((),), ("02",),
            None, True, False, 0, "", "ab", {}, AnyEqual(), (AnyEqual(),), ((AnyEqual(), 2),), ((0, AnyEqual()),),
        ):
            self.assertIsNone(reduced(STEPS, value), value)
        for value in NO_INTEGERS:
            self.assertIsNone(reduced(STEPS, ((value, 2),)), value)
            self.assertIsNone(reduced(STEPS, ((0, value),)), value)

    def test_without_steps(self):
        self.assertEqual(reduced((), ()), ())
        for value in (((0, 0),), ((0, 1),), None, []):
            self.assertIsNone(reduced((), value))


if __name__ == "__main__":
    unittest.main()
