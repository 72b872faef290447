"""Points 62, 63, 68, 69, 71 and 73: steps, which of them commute, what they do in a net, and layers."""

import unittest
from itertools import permutations, product

from allbide.repair import told
from allbide.steps import commute, layers, stepped, steps_of
from tests.oracles import distances, is_right, some_places, stepped_at, told_all
from tests.samples import NET, SHORT_NET, exchanged, kept_pairs, later_steps, some_rows, some_steps

PLACES = some_places((0, 1), range(-3, 4), (-9, 0, 9))
SMALL_STEPS = list(product(("raise", "lower"), (0, 1), range(-1, 3)))


def stepped_by_words(net, heights, steps):
    """The heights to which the steps lead, as point 62 says it."""
    bounds = distances(net)
    for word, e, v in steps:
        found = []
        for c, height in enumerate(heights):
            if word == "raise" and bounds[c][e] is not None:
                height = max(height, v - bounds[c][e])
            if word == "lower" and bounds[e][c] is not None:
                height = min(height, v + bounds[e][c])
            found.append(height)
        heights = tuple(found)
    return heights


def in_a_line(found):
    """The steps of layers, one layer after another."""
    return tuple(step for layer in found for step in layer)


class StepsOfTest(unittest.TestCase):
    """Point 62: the steps of a row."""

    def test_first_the_raise_then_the_lower_of_each_piece(self):
        self.assertEqual(steps_of(()), ())
        self.assertEqual(steps_of(((3, -500),)), (("raise", 3, -500), ("lower", 3, -500)))
        self.assertEqual(steps_of(((0, 7), (5, 9), (0, 7))), (
            ("raise", 0, 7), ("lower", 0, 7), ("raise", 5, 9), ("lower", 5, 9), ("raise", 0, 7), ("lower", 0, 7),
        ))

    def test_as_many_as_eight_pieces_have(self):
        row = tuple((k % 6, 500 - k) for k in range(8))
        found = steps_of(row)
        self.assertEqual(len(found), 16)
        self.assertEqual(found[::2], tuple(("raise", event, time) for event, time in row))
        self.assertEqual(found[1::2], tuple(("lower", event, time) for event, time in row))


class SteppedTest(unittest.TestCase):
    """Point 62: what steps do in a net."""

    def test_single_steps(self):
        for step, expected in (
            (("raise", 0, 7), (7, 12, 30)), (("raise", 0, -7), (0, 5, 30)), (("lower", 0, 7), (0, 5, 30)),
            (("lower", 0, -7), (-7, 3, 30)), (("lower", 0, -40), (-40, -30, 20)), (("raise", 0, 26), (26, 31, 31)),
            (("raise", 1, 40), (30, 40, 40)), (("lower", 1, 4), (-1, 4, 30)), (("raise", 2, 70), (10, 15, 70)),
            (("lower", 2, 4), (-1, 4, 4)), (("lower", 2, 31), (0, 5, 30)), (("raise", 2, 29), (0, 5, 30)),
        ):
            self.assertEqual(stepped(SHORT_NET, (0, 5, 30), (step,)), expected, step)

    def test_several_steps_one_after_another(self):
        net = (2, ((0, 1, 5, 10),))
        self.assertEqual(stepped(net, (0, 8), (("raise", 0, 7), ("lower", 1, 11))), (6, 11))
        self.assertEqual(stepped(net, (0, 8), (("lower", 1, 11), ("raise", 0, 7))), (7, 12))
        self.assertEqual(stepped(net, (0, 8), (("raise", 0, 7),) * 16), (7, 12))

    def test_no_steps_leave_the_times(self):
        for net, times in kept_pairs(130, 40):
            self.assertEqual(stepped(net, times, ()), times)

    def test_a_bound_that_is_none_has_no_effect(self):
        self.assertEqual(stepped(NET, (0, 5, 5), (("lower", 0, -90),)), (-90, -80, 5))
        self.assertEqual(stepped(NET, (0, 5, 5), (("raise", 2, 90),)), (0, 5, 90))
        self.assertEqual(stepped((2, ()), (0, 0), (("raise", 0, 90), ("lower", 1, -90))), (90, -90))

    def test_the_farthest_heights(self):
        net = (6, tuple((k, k + 1, 100, 100) for k in range(5)))
        times = tuple(100 * k for k in range(6))
        self.assertEqual(stepped(net, times, (("raise", 0, 500),)), (500, 600, 700, 800, 900, 1000))
        self.assertEqual(stepped(net, times, (("lower", 5, -500),)), (-1000, -900, -800, -700, -600, -500))
        self.assertEqual(stepped((1, ()), (1000,), (("raise", 0, 500),)), (1000,))
        self.assertEqual(stepped((1, ()), (1000,), (("lower", 0, -500),)), (-500,))

    def test_as_point_62_says_it(self):
        for k, (net, times) in enumerate(kept_pairs(131, 100)):
            for steps in some_steps(132 + k, 4, net[0], far=30):
                heights = stepped(net, times, steps)
                self.assertEqual(heights, stepped_by_words(net, times, steps), (net, times, steps))
                self.assertTrue(is_right(net, heights))

    def test_the_two_steps_of_a_piece_of_news_lead_where_it_leads(self):
        for k, (net, times) in enumerate(kept_pairs(133, 60)):
            for row in some_rows(134 + k, 4, net[0]):
                self.assertEqual(stepped(net, times, steps_of(row)), told_all(net, times, row))
                for news in row:
                    self.assertEqual(stepped(net, times, steps_of((news,))), told(net, times, news))


class CommuteTest(unittest.TestCase):
    """Points 63, 71 and 73."""

    def test_the_example_of_point_73(self):
        self.assertIs(commute(("raise", 0, 7), ("lower", 0, 9)), True)
        self.assertIs(commute(("raise", 0, 9), ("lower", 0, 7)), False)

    def test_all_pairs_by_the_words(self):
        for one, other in product(product(("raise", "lower"), (0, 1, 5), (-500, -1, 0, 1, 500)), repeat=2):
            right = one[0] == other[0]
            if not right and one[1] == other[1]:
                right = one[2] <= other[2] if one[0] == "raise" else other[2] <= one[2]
            self.assertIs(commute(one, other), right, (one, other))
            self.assertIs(commute(other, one), right, (one, other))

    def test_steps_commute_if_the_same_comes_at_every_place(self):
        for one, other in product(SMALL_STEPS, repeat=2):
            same = all(stepped_at((one, other), place) == stepped_at((other, one), place) for place in PLACES)
            self.assertIs(commute(one, other), same, (one, other))

    def test_steps_that_commute_do_so_in_nets(self):
        for net, times in kept_pairs(135, 40, sizes=(2, 3, 4)):
            for one, other in product(SMALL_STEPS[::2], SMALL_STEPS[1::2]):
                if commute(one, other):
                    self.assertEqual(stepped(net, times, (one, other)), stepped(net, times, (other, one)))

    def test_steps_that_do_not_commute_differ_in_some_net(self):
        for one, other in product(SMALL_STEPS, repeat=2):
            if one[0] == "raise" and other[0] == "lower" and not commute(one, other):
                (_, a, v), (_, b, w) = one, other
                net, times = (2, ()), (w, w)
                if a != b:
                    # The raise takes 2 to at least 2 * v + 9, and the lower to at most 2 * w - 9, which is less.
                    net = (3, ((a, 2, 9 + v, None), (b, 2, None, w - 9)))
                    times = tuple({a: -9 - v, b: 9 - w, 2: 0}[event] for event in range(3))
                self.assertNotEqual(stepped(net, times, (one, other)), stepped(net, times, (other, one)))

    def test_point_71_put_later_or_exchanged(self):
        for one, other in product(SMALL_STEPS, repeat=2):
            right = commute(one, other)
            for many in (-499, -1, 3, 498):
                self.assertIs(commute(*later_steps((one, other), many)), right)
            self.assertIs(commute(*exchanged((one, other))), right)


class LayersTest(unittest.TestCase):
    """Points 68, 69 and 71."""

    def test_levels(self):
        raised, lowered = ("raise", 0, 9), ("lower", 0, 7)
        for steps, expected in (
            ((), ()),
            ((raised,), ((raised,),)),
            ((raised, lowered), ((raised,), (lowered,))),
            ((lowered, raised), ((lowered,), (raised,))),
            ((raised, lowered, raised), ((raised,), (lowered,), (raised,))),
            ((raised, ("raise", 1, 3), lowered), ((raised, ("raise", 1, 3)), (lowered,))),
            # Level 0 behind steps of greater levels, if it commutes with all of them.
            ((raised, lowered, ("lower", 0, 9)), ((raised, ("lower", 0, 9)), (lowered,))),
            ((("raise", 0, 5), ("lower", 0, 7)), ((("raise", 0, 5), ("lower", 0, 7)),)),
            # One more than the greatest level of those with which it does not commute, not than the last one.
            ((raised, lowered, ("raise", 0, 8), ("lower", 0, 8), ("lower", 1, 1)),
             ((raised,), (lowered, ("lower", 0, 8)), (("raise", 0, 8),), (("lower", 1, 1),))),
        ):
            self.assertEqual(layers(steps), expected, steps)

    def test_the_sequence_within_a_layer(self):
        steps = (("raise", 2, -3), ("raise", 0, 4), ("raise", 0, -4), ("raise", 1, 500), ("raise", 0, 4))
        layer = (("raise", 0, -4), ("raise", 0, 4), ("raise", 0, 4), ("raise", 1, 500), ("raise", 2, -3))
        for other in permutations(steps):
            self.assertEqual(layers(other), (layer,))
            self.assertEqual(layers(exchanged(other)), (tuple(sorted(exchanged(layer))),))
        mixed = (("lower", 0, 9), ("raise", 0, 8), ("lower", 0, 8), ("raise", 0, -8))
        for other in permutations(mixed):
            self.assertEqual(
                layers(other), ((("raise", 0, -8), ("raise", 0, 8), ("lower", 0, 8), ("lower", 0, 9)),),
            )

    def test_sixteen_levels(self):
        steps = (("raise", 0, 1), ("lower", 0, 0)) * 8
        self.assertEqual(layers(steps), tuple((step,) for step in steps))

    def test_levels_as_point_68_says_it(self):
        for steps in some_steps(136, 300, 3, most=16):
            levels = []
            for k, step in enumerate(steps):
                above = [levels[i] for i in range(k) if not commute(step, steps[i])]
                levels.append(1 + max(above) if above else 0)
            found = layers(steps)
            self.assertEqual(len(found), len(set(levels)))
            for level, layer in enumerate(found):
                expected = [step for step, own in zip(steps, levels) if own == level]
                self.assertEqual(layer, tuple(sorted(expected, key=lambda step: (step[0] == "lower", step[1:]))))

    def test_steps_of_one_layer_commute(self):
        for steps in some_steps(137, 200, 2, most=16):
            for layer in layers(steps):
                self.assertTrue(all(commute(one, other) for one, other in product(layer, repeat=2)))

    def test_point_69_the_layers_do_the_same_as_the_steps(self):
        for steps in some_steps(138, 40, 2, far=2):
            for place in PLACES[::3]:
                self.assertEqual(stepped_at(in_a_line(layers(steps)), place), stepped_at(steps, place))
        for k, (net, times) in enumerate(kept_pairs(139, 60, far=6)):
            for steps in some_steps(140 + k, 5, net[0], most=16, far=9):
                self.assertEqual(stepped(net, times, in_a_line(layers(steps))), stepped(net, times, steps))

    def test_layers_of_layers(self):
        for steps in some_steps(141, 100, 3, most=16):
            self.assertEqual(layers(in_a_line(layers(steps))), layers(steps))

    def test_point_71_put_later_or_exchanged(self):
        for steps in some_steps(142, 100, 3, most=16):
            for many in (-400, 1, 77):
                self.assertEqual(layers(later_steps(steps, many)), tuple(later_steps(x, many) for x in layers(steps)))
            expected = tuple(sorted(exchanged(layer)) for layer in layers(steps))
            self.assertEqual(tuple(sorted(layer) for layer in layers(exchanged(steps))), expected)


if __name__ == "__main__":
    unittest.main()
