"""Points 2, 8 and 17: wrong arguments in the order of the parameters, and nothing is modified."""

import copy
import unittest

from allbide.changes import part, renamed, turned, with_rule
from allbide.errors import BadValue
from allbide.nets import edges, excess, first_broken, is_net, is_times, is_walk, keeps, walk_length
from tests.samples import (
    NET, WRONG_CHOICES, WRONG_EVENTS, WRONG_NETS, WRONG_ORDERS, WRONG_RULES, WRONG_TIMES, WRONG_WALKS,
)

NET_ARGUMENT = ("net", NET, WRONG_NETS)
TIMES_ARGUMENT = ("times", (0, 7, 9), WRONG_TIMES)

# Each function with the name, a right value and the wrong ones of each argument that it refuses.
REFUSING = (
    (keeps, (NET_ARGUMENT, TIMES_ARGUMENT)),
    (excess, (NET_ARGUMENT, TIMES_ARGUMENT)),
    (first_broken, (NET_ARGUMENT, TIMES_ARGUMENT)),
    (edges, (NET_ARGUMENT,)),
    # Every value is valid as the last argument, so that it has no wrong ones.
    (is_walk, (NET_ARGUMENT, ("start", 0, WRONG_EVENTS), ("end", 1, WRONG_EVENTS), ("value", ((0, "high"),), ()))),
    (walk_length, (NET_ARGUMENT, ("walk", ((0, "high"), (0, "low")), WRONG_WALKS))),
    (turned, (NET_ARGUMENT,)),
    (renamed, (NET_ARGUMENT, ("order", (2, 0, 1), WRONG_ORDERS))),
    (part, (NET_ARGUMENT, ("chosen", (0, 2), WRONG_CHOICES))),
    (with_rule, (NET_ARGUMENT, ("rule", (2, 0, None, 4), WRONG_RULES))),
)


class RefusalTest(unittest.TestCase):
    def assert_refused(self, name, function, values):
        with self.assertRaises(BadValue, msg=(function, values)) as caught:
            function(*values)
        self.assertEqual(caught.exception.name, name, (function, values))

    def test_each_wrong_argument_alone(self):
        for function, arguments in REFUSING:
            for k, (name, _, wrong) in enumerate(arguments):
                for value in wrong:
                    values = [right for _, right, _ in arguments]
                    values[k] = value
                    self.assert_refused(name, function, values)

    def test_the_first_wrong_argument_is_named_if_later_ones_are_wrong_too(self):
        for function, arguments in REFUSING:
            for k, (name, _, wrong) in enumerate(arguments):
                later = [other[0] if other else None for _, _, other in arguments[k + 1:]]
                for value in wrong:
                    values = [right for _, right, _ in arguments[:k]] + [value] + later
                    self.assert_refused(name, function, values)

    def test_times_and_events_have_to_be_those_of_the_net(self):
        for function in (keeps, excess, first_broken):
            self.assert_refused("times", function, ((2, ()), (0, 0, 0)))
            self.assert_refused("times", function, ((4, ()), (0, 0, 0)))
        self.assert_refused("start", is_walk, ((2, ()), 2, 2, ()))
        self.assert_refused("end", is_walk, ((2, ()), 1, 2, ()))
        self.assert_refused("order", renamed, ((2, ()), (0, 1, 2)))
        self.assert_refused("chosen", part, ((2, ()), (0, 2)))
        self.assert_refused("rule", with_rule, ((2, ()), (0, 2, 1, 1)))
        self.assert_refused("rule", with_rule, ((1, ()), (0, 1, 1, 1)))
        self.assert_refused("walk", walk_length, ((2, ()), ((0, "high"),)))


class NothingIsModifiedTest(unittest.TestCase):
    def test_equal_arguments_have_equal_results(self):
        for function, arguments in REFUSING:
            values = [right for _, right, _ in arguments]
            before = copy.deepcopy(values)
            first = function(*values)
            self.assertEqual(values, before, function)
            self.assertEqual(function(*before), first, function)
            self.assertEqual(function(*values), first, function)

    def test_lists_that_are_asked_about_stay_as_they_are(self):
        wrong = [3, [[0, 1, 5, 10]]]
        self.assertIs(is_net(wrong), False)
        self.assertEqual(wrong, [3, [[0, 1, 5, 10]]])
        wrong = [0, 0, 0]
        self.assertIs(is_times(wrong, NET), False)
        self.assertEqual(wrong, [0, 0, 0])
        wrong = [(0, "high")]
        self.assertIs(is_walk(NET, 0, 1, wrong), False)
        self.assertEqual(wrong, [(0, "high")])

    def test_a_refusal_has_no_effect_on_later_calls(self):
        for function, arguments in REFUSING:
            values = [right for _, right, _ in arguments]
            first = function(*values)
            with self.assertRaises(BadValue):
                function(None, *values[1:])
            self.assertEqual(function(*values), first, function)


if __name__ == "__main__":
    unittest.main()
