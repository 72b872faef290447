"""The interface: its names, parameters and kinds of values, and the examples that stand there."""

import doctest
import inspect
import os
import unittest

from allbide import (
    alike, bounds, changes, effects, errors, fitting, idle, journals, live, nets, places, reading, repair, scanning,
    steps, telling, ways, writing,
)
from allbide.alike import accepts_alike, alike_evidence, are_alike, left_out, shortest
from allbide.bounds import (
    accepts_bound, bound_evidence, can_keep, shows_kept, shows_round, some_heights, tight, told_round,
)
from allbide.changes import part, renamed, turned, with_rule
from allbide.effects import accepts_limits, behind, limit_evidence, limits, settled, states
from allbide.errors import TextError
from allbide.fitting import accepts_evidence, evidence_for, fits, fitting_beginning, window
from allbide.idle import idle_steps, is_idle_by, reduced, reduction, remaining
from allbide.journals import are_right, replayed
from allbide.live import Live
from allbide.nets import edges, excess, first_broken, is_walk, keeps, walk_length
from allbide.places import accepts_separation, is_place, separation, time_at
from allbide.reading import next_tokens, read_net, read_row, read_times
from allbide.scanning import scan
from allbide.steps import commute, layers, stepped, steps_of
from allbide.telling import Telling
from allbide.ways import accepts_way, carries, leads, sources, way, way_evidence
from allbide.writing import net_text, row_text, times_text

FUNCTIONS = (
    (nets, "is_net", ["value"]),
    (nets, "is_times", ["value", "net"]),
    (nets, "keeps", ["net", "times"]),
    (nets, "excess", ["net", "times"]),
    (nets, "first_broken", ["net", "times"]),
    (nets, "edges", ["net"]),
    (nets, "is_walk", ["net", "start", "end", "value"]),
    (nets, "walk_length", ["net", "walk"]),
    (changes, "turned", ["net"]),
    (changes, "renamed", ["net", "order"]),
    (changes, "part", ["net", "chosen"]),
    (changes, "with_rule", ["net", "rule"]),
    (bounds, "can_keep", ["net"]),
    (bounds, "tight", ["net"]),
    (bounds, "told_round", ["net"]),
    (bounds, "some_heights", ["net"]),
    (bounds, "shows_kept", ["net", "value"]),
    (bounds, "shows_round", ["net", "value"]),
    (bounds, "bound_evidence", ["net", "start", "end"]),
    (bounds, "accepts_bound", ["net", "start", "end", "number", "value"]),
    (repair, "fit", ["net", "row"]),
    (repair, "told", ["net", "times", "news"]),
    (repair, "repaired", ["net", "times", "row"]),
    (repair, "repair", ["net", "times", "row"]),
    (repair, "accepts_repair", ["net", "times", "row", "value"]),
    (fitting, "fits", ["net", "row"]),
    (fitting, "evidence_for", ["net", "row"]),
    (fitting, "accepts_evidence", ["net", "row", "value"]),
    (fitting, "window", ["net", "row", "event"]),
    (fitting, "fitting_beginning", ["net", "row"]),
    (effects, "states", ["net", "times", "row"]),
    (effects, "behind", ["net", "times", "row"]),
    (effects, "limits", ["net", "row"]),
    (effects, "settled", ["net", "row"]),
    (effects, "limit_evidence", ["net", "row", "event"]),
    (effects, "accepts_limits", ["net", "row", "event", "pair", "value"]),
    (steps, "steps_of", ["row"]),
    (steps, "commute", ["one", "other"]),
    (steps, "stepped", ["net", "times", "steps"]),
    (steps, "layers", ["steps"]),
    (idle, "is_idle_by", ["steps", "index", "by"]),
    (idle, "idle_steps", ["steps"]),
    (idle, "remaining", ["steps"]),
    (idle, "reduction", ["steps"]),
    (idle, "reduced", ["steps", "value"]),
    (alike, "are_alike", ["first", "second"]),
    (alike, "alike_evidence", ["first", "second"]),
    (alike, "accepts_alike", ["first", "second", "value"]),
    (alike, "shortest", ["row"]),
    (alike, "left_out", ["row"]),
    (places, "is_place", ["value"]),
    (places, "time_at", ["row", "place"]),
    (places, "separation", ["first", "second"]),
    (places, "accepts_separation", ["first", "second", "value"]),
    (ways, "leads", ["net", "first", "second", "chosen"]),
    (ways, "carries", ["net", "first", "second", "event", "other"]),
    (ways, "sources", ["net", "first", "second"]),
    (ways, "way", ["net", "first", "second"]),
    (ways, "way_evidence", ["net", "first", "second"]),
    (ways, "accepts_way", ["net", "first", "second", "row", "value"]),
    (scanning, "scan", ["text"]),
    (reading, "next_tokens", ["text", "kind"]),
    (reading, "read_net", ["text"]),
    (reading, "read_row", ["net", "text"]),
    (reading, "read_times", ["net", "text"]),
    (writing, "net_text", ["net"]),
    (writing, "row_text", ["row"]),
    (writing, "times_text", ["net", "times"]),
    (journals, "replayed", ["net", "times", "journal"]),
    (journals, "are_right", ["net", "times", "records"]),
)

# The classes of the interface that are no errors: their own parameters, and those of each method.
OBJECTS = (
    (telling, "Telling", ["net"], (
        ("tell", ["event", "time"]), ("take_back", []), ("windows", []), ("told", []), ("heights", []),
        ("evidence", ["event", "time"]), ("accepts", ["event", "time", "value"]),
    )),
    (live, "Live", ["net", "times"], (
        ("act", ["command"]), ("undo", []), ("net", []), ("times", []), ("row", []), ("journal", []),
        ("moves", ["news"]), ("room", ["event"]), ("records", []), ("twin", []),
    )),
)

CLASSES = (
    ("BideError", None),
    ("BadValue", ["name"]),
    ("TooLarge", ["what"]),
    ("NotPossible", ["why"]),
    ("TextError", ["column", "words"]),
)

README = os.path.join(os.path.dirname(os.path.dirname(os.path.abspath(__file__))), "README.md")


class NamesTest(unittest.TestCase):
    def test_functions_are_defined_in_their_files_with_their_parameters(self):
        for module, name, parameters in FUNCTIONS:
            function = getattr(module, name)
            self.assertEqual(function.__module__, module.__name__, name)
            self.assertEqual(list(inspect.signature(function).parameters), parameters, name)

    def test_errors_are_defined_in_their_file_with_their_parameters(self):
        for name, parameters in CLASSES:
            kind = getattr(errors, name)
            self.assertEqual(kind.__module__, "allbide.errors", name)
            if parameters is not None:
                self.assertEqual(list(inspect.signature(kind).parameters), parameters, name)

    def test_classes_and_all_of_their_methods_are_defined_in_their_files(self):
        for module, name, parameters, methods in OBJECTS:
            kind = getattr(module, name)
            self.assertEqual(kind.__module__, module.__name__, name)
            self.assertEqual(list(inspect.signature(kind).parameters), parameters, name)
            for method, own in methods:
                # In the class itself, not only in a base class.
                self.assertIn(method, vars(kind))
                self.assertEqual(list(inspect.signature(getattr(kind, method)).parameters), ["self"] + own, method)


def contains_list(value):
    return isinstance(value, list) or (isinstance(value, tuple) and any(contains_list(item) for item in value))


class KindsTest(unittest.TestCase):
    def test_tuples_are_returned_throughout(self):
        net = (3, ((0, 1, 5, 10), (1, 2, 0, None)))
        times, row = (0, 5, 8), ((0, 7), (2, 30))
        for value in (
            excess(net, (0, 0, 0)), edges(net), edges((1, ())),
            turned(net), renamed(net, (1, 2, 0)), part(net, (0, 1)), with_rule(net, (2, 0, 1, 1)),
            tight(net), told_round((2, ((0, 1, 2, 1),))), some_heights(net), bound_evidence(net, 2, 0),
            bound_evidence(net, 0, 2), repair.told(net, times, (0, 7)), repair.repaired(net, times, row),
            repair.repair(net, times, row), evidence_for(net, row), evidence_for(net, ((0, 7), (1, 20))),
            window(net, row, 1), states(net, times, row), behind(net, times, row), behind(net, times, ()),
            limits(net, row), settled(net, row), limit_evidence(net, row, 2),
            steps_of(row), stepped(net, times, steps_of(row)), stepped(net, times, ()), layers(steps_of(row)),
            layers(()), idle_steps(steps_of(row)), remaining(steps_of(row)), reduction(steps_of(row)),
            reduced(steps_of(row), ()), alike_evidence(row, row), shortest(row), left_out(row),
            separation(((0, 7), (0, 9)), ((0, 9),)), way(net, (0, 5, 5), (7, 12, 13)), way(net, times, times),
            way_evidence(net, (0, 5, 5), (7, 12, 13)),
        ):
            self.assertIs(type(value), tuple)
            self.assertFalse(contains_list(value), value)

    def test_what_a_telling_returns(self):
        begun = Telling((3, ((0, 1, 5, 10), (1, 2, 0, None))))
        for value in (
            begun.windows(), begun.told(), begun.heights(), begun.evidence(0, 7), begun.tell(0, 7), begun.windows(),
            begun.told(), begun.heights(), begun.evidence(1, 7), begun.evidence(1, 13), begun.take_back(),
        ):
            self.assertIs(type(value), tuple)
            self.assertFalse(contains_list(value), value)
        for value in (begun.accepts(0, 7, None), is_place(None)):
            self.assertIs(value, False)

    def test_what_a_live_net_returns(self):
        begun = Live((3, ((0, 1, 5, 10), (1, 2, 0, None))), (0, 5, 30))
        for many, command in enumerate((("tell", (0, 7)), ("join", ((0, 7), (1, 12))), ("shorten",), ("join", ())), 1):
            number = begun.act(command)
            self.assertEqual((type(number), number), (int, many))
        for value in (
            begun.net(), begun.times(), begun.row(), begun.journal(), begun.moves((2, 5)), begun.room(2),
            begun.records(), begun.undo(), begun.undo(), begun.undo(), begun.records(), begun.twin().records(),
        ):
            self.assertIs(type(value), tuple)
            self.assertFalse(contains_list(value), value)
        self.assertIs(type(begun.twin()), Live)
        self.assertIs(type(replayed(begun.net(), (0, 5, 30), begun.journal())), Live)
        self.assertIs(are_right(begun.net(), (0, 5, 30), begun.records()), True)
        self.assertIs(are_right(begun.net(), (0, 5, 30), None), False)

    def test_what_texts_are_read_as_and_written_as(self):
        net = (3, ((0, 1, 5, 10), (1, 2, 0, None)))
        for value in (
            read_net("3:"), read_net("3: b - a in 5.."), read_row(net, ""), read_row(net, "a = 7"),
            read_times(net, "a = 7, b = 7, c = 7"),
        ):
            self.assertIs(type(value), tuple)
            self.assertFalse(contains_list(value), value)
        for value in (net_text(net), row_text(()), row_text(((0, 7),)), times_text(net, (0, 0, 0))):
            self.assertIs(type(value), str)

    def test_lists_are_returned_where_the_document_says_so(self):
        net = (3, ((0, 1, 5, 10), (1, 2, 0, None)))
        for value in (sources(net, (0, 5, 5), (7, 12, 13)), sources(net, (0, 5, 5), (0, 5, 5)), scan(""), scan("a")):
            self.assertIs(type(value), list)
            self.assertTrue(all(type(item) is tuple for item in value))
        for value in (next_tokens("", "row"), next_tokens("3:", "net")):
            self.assertIs(type(value), list)
            self.assertTrue(all(type(item) is str for item in value))


class ExamplesTest(unittest.TestCase):
    def test_the_examples_of_the_document(self):
        net = (3, ((0, 1, 5, 10), (1, 2, 0, None)))
        self.assertEqual(
            (keeps(net, (0, 7, 7)), excess(net, (0, 3, 2))),
            (True, (-2, -1)),
        )
        self.assertEqual(
            (first_broken(net, (0, 12, 11)), first_broken(net, (0, 9, 8))),
            (0, 1),
        )
        self.assertEqual(edges(net), (((0, "high"), 0, 1, 10), ((0, "low"), 1, 0, -5), ((1, "low"), 2, 1, 0)))
        self.assertEqual(
            (
                is_walk(net, 2, 0, ((1, "low"), (0, "low"))),
                walk_length(net, ((1, "low"), (0, "low"))),
                is_walk(net, 1, 2, ((1, "high"),)),
            ),
            (True, -5, False),
        )
        self.assertEqual(
            (turned(net), renamed(net, (2, 1, 0))),
            ((3, ((1, 0, 5, 10), (2, 1, 0, None))), (3, ((2, 1, 5, 10), (1, 0, 0, None)))),
        )
        self.assertEqual(
            (part(net, (1, 2)), with_rule((2, ()), (1, 0, None, -4))),
            ((2, ((0, 1, 0, None),)), (2, ((1, 0, None, -4),))),
        )

    def test_the_examples_of_bounds(self):
        net = (3, ((0, 1, 5, 10), (1, 2, 0, None), (0, 2, None, 60)))
        self.assertEqual(tight(net), ((0, 10, 60), (-5, 0, 55), (-5, 0, 0)))
        self.assertEqual(
            (can_keep(net), shows_kept(net, (0, 5, 60)), shows_kept(net, (0, 5, 61))),
            (True, True, False),
        )
        self.assertEqual(
            (
                accepts_bound(net, 1, 2, 55, (((0, "low"), (2, "high")), (0, 5, 60))),
                accepts_bound(net, 1, 2, 56, bound_evidence(net, 1, 2)),
            ),
            (True, False),
        )
        bad = (2, ((0, 1, 3, None), (1, 0, -2, None)))
        self.assertEqual(
            (len(told_round(bad)), shows_round(bad, ((1, "low"), (0, "low"))),
             shows_round(bad, ((0, "low"), (0, "low")))),
            (2, True, False),
        )
        one = (2, ((0, 1, 3, None),))
        self.assertEqual(
            (tight(one), accepts_bound(one, 0, 1, None, ((0, 3), (1,)))),
            (((0, None), (-3, 0)), True),
        )

    def test_the_examples_of_repair(self):
        net = (3, ((0, 1, 5, 10), (1, 2, 0, None), (0, 2, None, 60)))
        self.assertEqual(repair.told(net, (0, 5, 30), (0, 7)), (7, 12, 30))
        self.assertEqual(
            repair.repair(net, (0, 5, 30), ((0, 7),)),
            ((7, 12, 30), ((0, 0, 7, ()), (1, 5, 12, ((0, "low"),)))),
        )
        self.assertEqual(
            (repair.fit(net, ((0, 7), (2, 67))), repair.fit(net, ((0, 7), (2, 68))),
             repair.repaired(net, (0, 5, 30), ((1, 100), (2, 102)))),
            (True, False, (90, 100, 102)),
        )
        for height, expected in ((12, True), (13, False)):
            value = ((7, height, 30), ((0, 0, 7, ()), (1, 5, height, ((0, "low"),))))
            self.assertIs(repair.accepts_repair(net, (0, 5, 30), ((0, 7),), value), expected)

    def test_the_examples_of_fitting(self):
        net = (3, ((0, 1, 5, 10), (1, 2, 0, None)))
        self.assertEqual((fits(net, ((0, 7), (1, 20))), fits(net, ((0, 7), (2, 30)))), (False, True))
        self.assertEqual(
            (evidence_for(net, ((0, 7), (1, 20))), evidence_for(net, ((0, 7), (2, 30)))),
            (("barred", (0, 1, ((0, "high"),))), ("fits", (7, 12, 30))),
        )
        self.assertEqual(
            (accepts_evidence(net, ((1, 3), (1, 4)), ("barred", (0, 1, ()))),
             accepts_evidence(net, ((0, 0),), ("fits", (0, 8, 8)))),
            (True, True),
        )
        self.assertEqual(
            (window(net, ((0, 7), (2, 15)), 1), window(net, ((0, 7),), 2), window(net, (), 0)),
            ((12, 15), (12, None), (None, None)),
        )
        self.assertEqual(fitting_beginning(net, ((0, 7), (2, 12), (1, 13), (0, 8))), 2)

    def test_the_examples_of_effects(self):
        net = (3, ((0, 1, 5, 10), (1, 2, 0, None)))
        self.assertEqual(states(net, (0, 5, 8), ((0, 7), (1, 30))), ((7, 12, 12), (20, 30, 30)))
        self.assertEqual(
            (limits(net, ((0, 7), (1, 30))), settled(net, ((0, 7), (1, 30)))),
            (((20, 20), (30, 30), (30, None)), (20, 30, None)),
        )
        self.assertEqual(
            (limits(net, ((1, 30), (0, 7))), behind(net, (0, 5, 50), ((1, 30), (0, 7)))),
            (((7, 7), (17, 17), (30, None)), (7, 17, 50)),
        )
        for pair, expected in (((30, None), True), ((30, 31), False)):
            evidence = limit_evidence(net, ((1, 30),), 2)
            self.assertIs(accepts_limits(net, ((1, 30),), 2, pair, evidence), expected)

    def test_the_examples_of_idle(self):
        told = steps_of(((0, 7), (0, 9)))
        self.assertEqual(told, (("raise", 0, 7), ("lower", 0, 7), ("raise", 0, 9), ("lower", 0, 9)))
        self.assertEqual(
            (commute(("raise", 0, 7), ("lower", 0, 9)), commute(told[1], told[2]),
             commute(("raise", 0, 1), ("lower", 1, 5))),
            (True, False, False),
        )
        self.assertEqual(
            (idle_steps(told), is_idle_by(told, 0, 2), is_idle_by(told, 3, 1)),
            ((0, 3), True, True),
        )
        self.assertEqual(
            (remaining(told), reduction(told), reduced(told, ((0, 2),))),
            (
                (("lower", 0, 7), ("raise", 0, 9)),
                ((0, 2), (3, 1)),
                (("lower", 0, 7), ("raise", 0, 9), ("lower", 0, 9)),
            ),
        )
        self.assertEqual(
            (layers(remaining(told)), reduced(told, ((1, 3),)) is None),
            (((("lower", 0, 7),), (("raise", 0, 9),)), True),
        )
        self.assertEqual(stepped((2, ((0, 1, 5, 10),)), (0, 8), (("raise", 0, 7), ("lower", 1, 11))), (6, 11))

    def test_the_examples_of_alike(self):
        twice, once = ((0, 7), (0, 7)), ((0, 7),)
        self.assertEqual(
            (are_alike(twice, once), are_alike(((0, 7), (0, 9)), ((0, 9),)), alike_evidence(twice, once)),
            (True, False, (((0, 2), (1, 3)), ())),
        )
        self.assertEqual(
            (shortest(((0, 7), (0, 7), (1, 3))), left_out(((0, 7), (0, 7), (1, 3)))),
            (((0, 7), (1, 3)), (0,)),
        )
        self.assertEqual(
            (accepts_alike(twice, once, (((0, 2), (1, 3)), ())), accepts_alike(once, ((0, 9),), ((), ()))),
            (True, False),
        )

    def test_the_examples_of_places(self):
        self.assertEqual(
            (separation(((0, 7), (0, 9)), ((0, 9),)), time_at(((0, 7), (0, 9)), (None, (0, 0), 10000))),
            ((None, (0, 0), 10000), 7),
        )
        self.assertEqual(
            (is_place(((0, 3), (0, -4), 0)), accepts_separation(((0, 7),), ((0, 9),), (None, (0, 2), 5))),
            (False, False),
        )

    def test_the_examples_of_ways(self):
        net = (3, ((0, 1, 5, 10), (1, 2, 0, None)))
        low, high = (0, 5, 5), (7, 12, 12)
        self.assertEqual((way(net, low, high), way(net, high, low)), (((0, 7),), ((2, 5),)))
        self.assertEqual(
            (sources(net, high, low), carries(net, low, high, 0, 2), carries(net, high, low, 2, 0)),
            ([(2,)], True, True),
        )
        self.assertEqual(
            (leads(net, low, high, (0,)), leads(net, low, high, (1, 2)), way(net, low, low)),
            (True, False, ()),
        )
        self.assertIs(accepts_way(net, low, high, ((0, 7),), way_evidence(net, low, high)), True)

    def test_the_examples_of_telling(self):
        begun = Telling((3, ((0, 1, 5, 10), (1, 2, 0, None), (0, 2, None, 60))))
        self.assertEqual(begun.windows(), ((None, None), (None, None), (None, None)))
        self.assertEqual(begun.tell(1, 20), ((10, 15), (20, 20), (20, 75)))
        self.assertEqual(
            (begun.tell(2, 72), begun.told()),
            (((12, 15), (20, 20), (72, 72)), ((1, 20), (2, 72))),
        )
        self.assertEqual(
            (begun.accepts(0, 11, ("early", 2, ((2, "high"),))), begun.accepts(0, 12, ("fits", (12, 20, 72))),
             begun.accepts(0, 16, ("late", 1, ((0, "low"),)))),
            (True, True, True),
        )
        self.assertEqual(
            (begun.take_back(), begun.windows()[0], begun.evidence(0, 14)[0]),
            ((2, 72), (10, 15), "fits"),
        )

    def test_the_examples_of_reading_and_writing(self):
        net = read_net("3: b - a in 5..10; c - b in 0..; c - a in ..60")
        self.assertEqual(
            (net, net_text((2, ((1, 0, -3, None),)))),
            ((3, ((0, 1, 5, 10), (1, 2, 0, None), (0, 2, None, 60))), "2: a - b in -3.."),
        )
        self.assertEqual(
            (read_row(net, "c = 7, a = -2, c = 9"), row_text(((0, -2), (2, 7)))),
            (((2, 7), (0, -2), (2, 9)), "a = -2, c = 7"),
        )
        self.assertEqual(
            (read_times(net, "c=30,a=0,b=5"), times_text(net, (0, 5, 30))),
            ((0, 5, 30), "a = 0, b = 5, c = 30"),
        )
        self.assertEqual(
            (next_tokens("3: b - a in", "net"), next_tokens("3: b - a in 5..", "net"), next_tokens("a", "row")),
            (["a number", '"-"', '".."'], ["a number", '";"', '"-"', "the end"], ['"="']),
        )
        with self.assertRaises(TextError) as caught:
            read_net("2: b - a in 5..101")
        self.assertEqual((caught.exception.column, caught.exception.words), (16, "a side is from -100 to 100"))

    def test_the_examples_of_live_and_journals(self):
        begun = Live((3, ((0, 1, 5, 10), (1, 2, 0, None), (0, 2, None, 60))), (0, 5, 30))
        self.assertEqual(
            (begun.act(("tell", (0, 7))), begun.times(), begun.act(("tell", (0, 9))), begun.times(),
             begun.act(("tell", (0, 7))), begun.times()),
            (1, (7, 12, 30), 2, (9, 14, 30), 3, (7, 14, 30)),
        )
        self.assertEqual(
            (begun.room(1), begun.room(2), begun.act(("shorten",)), begun.row()),
            ((12, 17), (14, 67), 4, ((0, 9), (0, 7))),
        )
        self.assertEqual(
            (begun.moves((2, 13)), are_right(begun.net(), (0, 5, 30), begun.records())),
            (((1, 14, 13, ((1, "low"),)), (2, 30, 13, ())), True),
        )
        self.assertEqual(
            (begun.undo(), begun.row(), replayed(begun.net(), (0, 5, 30), begun.journal()).times()),
            (("shorten",), ((0, 7), (0, 9), (0, 7)), (7, 14, 30)),
        )

    def test_the_examples_of_the_readme(self):
        found = doctest.testfile(README, module_relative=False)
        self.assertGreater(found.attempted, 0)
        self.assertEqual(found.failed, 0)


if __name__ == "__main__":
    unittest.main()
