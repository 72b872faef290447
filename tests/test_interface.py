"""The interface: its names, parameters and kinds of values, and the examples that stand there."""

import doctest
import inspect
import os
import unittest

from allbide import changes, errors, nets
from allbide.changes import part, renamed, turned, with_rule
from allbide.nets import edges, excess, first_broken, is_walk, keeps, walk_length

FUNCTIONS = (
    (nets, "is_net", ["value"]),
    (nets, "is_times", ["value", "net"]),
    (nets, "keeps", ["net", "times"]),
    (nets, "excess", ["net", "times"]),
    (nets, "first_broken", ["net", "times"]),
    (nets, "edges", ["net"]),
    (nets, "is_walk", ["net", "start", "end", "value"]),
    (nets, "walk_length", ["net", "walk"]),
    (changes, "turned", ["net"]),
    (changes, "renamed", ["net", "order"]),
    (changes, "part", ["net", "chosen"]),
    (changes, "with_rule", ["net", "rule"]),
)

CLASSES = (
    ("BideError", None),
    ("BadValue", ["name"]),
    ("TooLarge", ["what"]),
    ("NotPossible", ["why"]),
    ("TextError", ["column", "words"]),
)

README = os.path.join(os.path.dirname(os.path.dirname(os.path.abspath(__file__))), "README.md")


class NamesTest(unittest.TestCase):
    def test_functions_are_defined_in_their_files_with_their_parameters(self):
        for module, name, parameters in FUNCTIONS:
            function = getattr(module, name)
            self.assertEqual(function.__module__, module.__name__, name)
            self.assertEqual(list(inspect.signature(function).parameters), parameters, name)

    def test_errors_are_defined_in_their_file_with_their_parameters(self):
        for name, parameters in CLASSES:
            kind = getattr(errors, name)
            self.assertEqual(kind.__module__, "allbide.errors", name)
            if parameters is not None:
                self.assertEqual(list(inspect.signature(kind).parameters), parameters, name)


def contains_list(value):
    return isinstance(value, list) or (isinstance(value, tuple) and any(contains_list(item) for item in value))


class KindsTest(unittest.TestCase):
    def test_tuples_are_returned_throughout(self):
        net = (3, ((0, 1, 5, 10), (1, 2, 0, None)))
        for value in (
            excess(net, (0, 0, 0)), edges(net), edges((1, ())),
            turned(net), renamed(net, (1, 2, 0)), part(net, (0, 1)), with_rule(net, (2, 0, 1, 1)),
        ):
            self.assertIs(type(value), tuple)
            self.assertFalse(contains_list(value), value)


class ExamplesTest(unittest.TestCase):
    def test_the_examples_of_the_document(self):
        net = (3, ((0, 1, 5, 10), (1, 2, 0, None)))
        self.assertEqual(
            (keeps(net, (0, 7, 7)), excess(net, (0, 3, 2))),
            (True, (-2, -1)),
        )
        self.assertEqual(
            (first_broken(net, (0, 12, 11)), first_broken(net, (0, 9, 8))),
            (0, 1),
        )
        self.assertEqual(edges(net), (((0, "high"), 0, 1, 10), ((0, "low"), 1, 0, -5), ((1, "low"), 2, 1, 0)))
        self.assertEqual(
            (
                is_walk(net, 2, 0, ((1, "low"), (0, "low"))),
                walk_length(net, ((1, "low"), (0, "low"))),
                is_walk(net, 1, 2, ((1, "high"),)),
            ),
            (True, -5, False),
        )
        self.assertEqual(
            (turned(net), renamed(net, (2, 1, 0))),
            ((3, ((1, 0, 5, 10), (2, 1, 0, None))), (3, ((2, 1, 5, 10), (1, 0, 0, None)))),
        )
        self.assertEqual(
            (part(net, (1, 2)), with_rule((2, ()), (1, 0, None, -4))),
            ((2, ((0, 1, 0, None),)), (2, ((1, 0, None, -4),))),
        )

    def test_the_examples_of_the_readme(self):
        found = doctest.testfile(README, module_relative=False)
        self.assertGreater(found.attempted, 0)
        self.assertEqual(found.failed, 0)


if __name__ == "__main__":
    unittest.main()
