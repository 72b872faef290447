"""Points 2, 8 and the refusals of each chapter: wrong arguments in the order of the parameters; nothing is modified."""

import copy
import unittest

from allbide.alike import accepts_alike, alike_evidence, are_alike, left_out, shortest
from allbide.bounds import (
    accepts_bound, bound_evidence, can_keep, shows_kept, shows_round, some_heights, tight, told_round,
)
from allbide.changes import part, renamed, turned, with_rule
from allbide.effects import accepts_limits, behind, limit_evidence, limits, settled, states
from allbide.errors import BadValue, NotPossible
from allbide.fitting import accepts_evidence, evidence_for, fits, fitting_beginning, window
from allbide.idle import idle_steps, is_idle_by, reduced, reduction, remaining
from allbide.journals import are_right, replayed
from allbide.live import Live
from allbide.nets import edges, excess, first_broken, is_net, is_times, is_walk, keeps, walk_length
from allbide.places import accepts_separation, is_place, separation, time_at
from allbide.reading import next_tokens, read_net, read_row, read_times
from allbide.repair import accepts_repair, fit, repair, repaired, told
from allbide.scanning import scan
from allbide.steps import commute, layers, stepped, steps_of
from allbide.telling import Telling
from allbide.ways import accepts_way, carries, leads, sources, way, way_evidence
from allbide.writing import net_text, row_text, times_text
from tests.lives import state_of
from tests.samples import (
    LOST_NETS, NET, NO_INTEGERS, WRONG_CHOICES, WRONG_COMMANDS, WRONG_EVENTS, WRONG_FREE_ROWS, WRONG_JOINT_NEWS,
    WRONG_JOURNALS, WRONG_KINDS, WRONG_NETS, WRONG_NEWS, WRONG_ORDERS, WRONG_PLACES, WRONG_ROWS, WRONG_RULES,
    WRONG_SETS, WRONG_STEP_TUPLES, WRONG_STEPS, WRONG_TEXTS, WRONG_TIMES, WRONG_WALKS,
)

NET_ARGUMENT = ("net", NET, WRONG_NETS)
TIMES_ARGUMENT = ("times", (0, 7, 9), WRONG_TIMES)
# Where a net has to be one that can be kept, and times have to keep it.
KEPT_NET_ARGUMENT = ("net", NET, WRONG_NETS + LOST_NETS)
KEPT_TIMES_ARGUMENT = (
    "times", (0, 7, 9), WRONG_TIMES + (
        (0, 4, 9), (0, 11, 12), (0, 7, 6), (7, 0, 9), (0, 0, 0), (1000, 1000, 1000),
        # The rules hold for these, but they are no times.
        (0, 7, 1001), (995, 1001, 1001), (-1001, -994, 0), (0, 7, 9, 9), [0, 7, 9], (False, 7, 9),
    ),
)
START_ARGUMENT = ("start", 0, WRONG_EVENTS)
END_ARGUMENT = ("end", 1, WRONG_EVENTS)
ROW_ARGUMENT = ("row", ((0, 7), (2, 30), (0, 8)), WRONG_ROWS)
FITTING_ROW_ARGUMENT = ("row", ((0, 7), (2, 30), (0, 7)), WRONG_ROWS)
JOINT_ARGUMENT = ("row", ((0, 7), (2, 30)), WRONG_JOINT_NEWS)
EVENT_ARGUMENT = ("event", 1, WRONG_EVENTS)

FREE_ROW_ARGUMENT = ("row", ((0, 7), (5, 30), (0, 7)), WRONG_FREE_ROWS)
FIRST_ARGUMENT = ("first", ((0, 7), (0, 7)), WRONG_FREE_ROWS)
SECOND_ARGUMENT = ("second", ((0, 7),), WRONG_FREE_ROWS)
STEPS = (("raise", 0, 7), ("lower", 1, 7), ("raise", 0, 9))
STEPS_ARGUMENT = ("steps", STEPS, WRONG_STEP_TUPLES)
WRONG_INDEXES = (-1, 3, 100, -3, *NO_INTEGERS)

# The rules hold for these, but they are no times that a way can lead from or to.
FAR_TIMES = ((0, 7, 501), (-501, -494, 0), (-501, -495, -495), (501, 506, 506), (500, 505, 505), (990, 1000, 1000))
WAY_FIRST_ARGUMENT = ("first", (0, 5, 5), KEPT_TIMES_ARGUMENT[2] + FAR_TIMES)
WAY_SECOND_ARGUMENT = ("second", (7, 12, 12), KEPT_TIMES_ARGUMENT[2] + FAR_TIMES)
PLACE_ARGUMENT = ("place", (None, (0, 0), 10000), WRONG_PLACES)
TEXT_ARGUMENT = ("text", "a - b = 5", WRONG_TEXTS)

REPAIR = ((7, 12, 30), ((0, 0, 7, ()), (1, 7, 12, ((0, "low"),)), (2, 9, 30, ())))



def begun(net):
    """The windows of a telling of the net."""
    return Telling(net).windows()


def after_one():
    """A telling in which 1 was told the time 12."""
    telling = Telling(NET)
    telling.tell(1, 12)
    return telling


def tell(event, time):
    """The windows when the event is told the time, too."""
    return after_one().tell(event, time)


def evidence(event, time):
    """The evidence of the telling about the event and the time."""
    return after_one().evidence(event, time)


def accepts(event, time, value):
    """What the telling judges of the value."""
    return after_one().accepts(event, time, value)


ASKED_TIMES = (-1001, 1001, *NO_INTEGERS)


def lived(net, times):
    """All that a new live net tells."""
    return state_of(Live(net, times))


def after_news():
    """A live net behind a piece of news."""
    live = Live(NET, (0, 7, 9))
    live.act(("tell", (1, 12)))
    return live


def act(command):
    """All that the live net tells behind the command."""
    live = after_news()
    live.act(command)
    return state_of(live)


def moves(news):
    """The moves of the live net for the piece of news."""
    return after_news().moves(news)


def room(event):
    """The room of the event in the live net."""
    return after_news().room(event)


def replayed_state(net, times, journal):
    """All that the replayed live net tells."""
    return state_of(replayed(net, times, journal))


JOURNAL = (("tell", (1, 12)), ("join", ((0, 7), (2, 30))), ("shorten",))

# Each function with the name, a right value and the wrong ones of each argument that it refuses. Every value is valid
# as what is judged, so that it has no wrong ones.
REFUSING = (
    (keeps, (NET_ARGUMENT, TIMES_ARGUMENT)),
    (excess, (NET_ARGUMENT, TIMES_ARGUMENT)),
    (first_broken, (NET_ARGUMENT, TIMES_ARGUMENT)),
    (edges, (NET_ARGUMENT,)),
    (is_walk, (NET_ARGUMENT, START_ARGUMENT, END_ARGUMENT, ("value", ((0, "high"),), ()))),
    (walk_length, (NET_ARGUMENT, ("walk", ((0, "high"), (0, "low")), WRONG_WALKS))),
    (turned, (NET_ARGUMENT,)),
    (renamed, (NET_ARGUMENT, ("order", (2, 0, 1), WRONG_ORDERS))),
    (part, (NET_ARGUMENT, ("chosen", (0, 2), WRONG_CHOICES))),
    (with_rule, (NET_ARGUMENT, ("rule", (2, 0, None, 4), WRONG_RULES))),
    (can_keep, (NET_ARGUMENT,)),
    (tight, (NET_ARGUMENT,)),
    (told_round, (NET_ARGUMENT,)),
    (some_heights, (NET_ARGUMENT,)),
    (shows_kept, (NET_ARGUMENT, ("value", (0, 5, 5), ()))),
    (shows_round, (NET_ARGUMENT, ("value", ((0, "high"), (0, "low")), ()))),
    (bound_evidence, (NET_ARGUMENT, START_ARGUMENT, END_ARGUMENT)),
    (accepts_bound, (
        NET_ARGUMENT, START_ARGUMENT, END_ARGUMENT, ("number", 10, ()), ("value", (((0, "high"),), (0, 10, 10)), ()),
    )),
    (fit, (KEPT_NET_ARGUMENT, JOINT_ARGUMENT)),
    (told, (KEPT_NET_ARGUMENT, KEPT_TIMES_ARGUMENT, ("news", (2, 30), WRONG_NEWS))),
    (repaired, (KEPT_NET_ARGUMENT, KEPT_TIMES_ARGUMENT, JOINT_ARGUMENT)),
    (repair, (KEPT_NET_ARGUMENT, KEPT_TIMES_ARGUMENT, JOINT_ARGUMENT)),
    (accepts_repair, (KEPT_NET_ARGUMENT, KEPT_TIMES_ARGUMENT, JOINT_ARGUMENT, ("value", REPAIR, ()))),
    (fits, (NET_ARGUMENT, ROW_ARGUMENT)),
    (evidence_for, (NET_ARGUMENT, ROW_ARGUMENT)),
    (accepts_evidence, (NET_ARGUMENT, ROW_ARGUMENT, ("value", ("barred", (0, 2, ())), ()))),
    (window, (NET_ARGUMENT, FITTING_ROW_ARGUMENT, EVENT_ARGUMENT)),
    (fitting_beginning, (NET_ARGUMENT, ROW_ARGUMENT)),
    (states, (NET_ARGUMENT, KEPT_TIMES_ARGUMENT, ROW_ARGUMENT)),
    (behind, (NET_ARGUMENT, KEPT_TIMES_ARGUMENT, ROW_ARGUMENT)),
    (limits, (NET_ARGUMENT, ROW_ARGUMENT)),
    (settled, (NET_ARGUMENT, ROW_ARGUMENT)),
    (limit_evidence, (NET_ARGUMENT, ROW_ARGUMENT, EVENT_ARGUMENT)),
    (accepts_limits, (
        NET_ARGUMENT, ("row", ((0, 7),), WRONG_ROWS), EVENT_ARGUMENT, ("pair", (12, 17), ()),
        ("value", limit_evidence(NET, ((0, 7),), 1), ()),
    )),
    (steps_of, (FREE_ROW_ARGUMENT,)),
    (commute, (("one", STEPS[0], WRONG_STEPS), ("other", STEPS[1], WRONG_STEPS))),
    # In a net of three events, steps of a greater one are wrong as well.
    (stepped, (KEPT_NET_ARGUMENT, KEPT_TIMES_ARGUMENT, (
        "steps", STEPS, WRONG_STEP_TUPLES + ((("raise", 3, 7),), STEPS + (("lower", 5, 7),)),
    ))),
    (layers, (STEPS_ARGUMENT,)),
    (is_idle_by, (STEPS_ARGUMENT, ("index", 0, WRONG_INDEXES), ("by", 2, WRONG_INDEXES))),
    (idle_steps, (STEPS_ARGUMENT,)),
    (remaining, (STEPS_ARGUMENT,)),
    (reduction, (STEPS_ARGUMENT,)),
    (reduced, (STEPS_ARGUMENT, ("value", ((0, 2),), ()))),
    (are_alike, (FIRST_ARGUMENT, SECOND_ARGUMENT)),
    (alike_evidence, (FIRST_ARGUMENT, SECOND_ARGUMENT)),
    (accepts_alike, (FIRST_ARGUMENT, SECOND_ARGUMENT, ("value", (((0, 2), (1, 3)), ()), ()))),
    (shortest, (FREE_ROW_ARGUMENT,)),
    (left_out, (FREE_ROW_ARGUMENT,)),
    (time_at, (FREE_ROW_ARGUMENT, PLACE_ARGUMENT)),
    (separation, (FIRST_ARGUMENT, SECOND_ARGUMENT)),
    (accepts_separation, (FIRST_ARGUMENT, SECOND_ARGUMENT, ("value", PLACE_ARGUMENT[1], ()))),
    (leads, (NET_ARGUMENT, WAY_FIRST_ARGUMENT, WAY_SECOND_ARGUMENT, ("chosen", (0, 2), WRONG_SETS))),
    (carries, (
        NET_ARGUMENT, WAY_FIRST_ARGUMENT, WAY_SECOND_ARGUMENT, EVENT_ARGUMENT, ("other", 2, WRONG_EVENTS),
    )),
    (sources, (NET_ARGUMENT, WAY_FIRST_ARGUMENT, WAY_SECOND_ARGUMENT)),
    (way, (NET_ARGUMENT, WAY_FIRST_ARGUMENT, WAY_SECOND_ARGUMENT)),
    (way_evidence, (NET_ARGUMENT, WAY_FIRST_ARGUMENT, WAY_SECOND_ARGUMENT)),
    (accepts_way, (
        NET_ARGUMENT, WAY_FIRST_ARGUMENT, WAY_SECOND_ARGUMENT, ("row", ((0, 7),), WRONG_JOINT_NEWS),
        ("value", way_evidence(NET, (0, 5, 5), (7, 12, 12)), ()),
    )),
    (begun, (NET_ARGUMENT,)),
    (tell, (("event", 0, WRONG_EVENTS), ("time", 4, (-501, 501, *NO_INTEGERS)))),
    (evidence, (EVENT_ARGUMENT, ("time", 4, ASKED_TIMES))),
    (accepts, (EVENT_ARGUMENT, ("time", 12, ASKED_TIMES), ("value", ("fits", (4, 12, 12)), ()))),
    (scan, (TEXT_ARGUMENT,)),
    (next_tokens, (("text", "3: b - a in", WRONG_TEXTS), ("kind", "net", WRONG_KINDS))),
    (read_net, (("text", "3: b - a in 5..10", WRONG_TEXTS),)),
    (read_row, (NET_ARGUMENT, ("text", "a = 5, c = -7", WRONG_TEXTS))),
    (read_times, (NET_ARGUMENT, ("text", "a = 5, c = -7, b = 0", WRONG_TEXTS))),
    (net_text, (NET_ARGUMENT,)),
    (row_text, (FREE_ROW_ARGUMENT,)),
    (times_text, (NET_ARGUMENT, TIMES_ARGUMENT)),
    (lived, (NET_ARGUMENT, KEPT_TIMES_ARGUMENT)),
    (act, (("command", ("join", ((0, 7), (2, 30))), WRONG_COMMANDS),)),
    (moves, (("news", (0, 9), WRONG_NEWS),)),
    (room, (EVENT_ARGUMENT,)),
    (replayed_state, (NET_ARGUMENT, KEPT_TIMES_ARGUMENT, ("journal", JOURNAL, WRONG_JOURNALS))),
    (are_right, (
        NET_ARGUMENT, KEPT_TIMES_ARGUMENT, ("records", replayed(NET, (0, 7, 9), JOURNAL).records(), ()),
    )),
)

# The functions that raise NotPossible("net"), once all arguments are found right.
NEEDING_A_KEPT_NET = (
    tight, bound_evidence, fits, evidence_for, window, fitting_beginning, limits, settled, limit_evidence,
    accepts_limits, begun,
)
# The judges and the questions that have an answer for every net.
NOT_NEEDING_IT = (
    can_keep, told_round, some_heights, shows_kept, shows_round, accepts_bound, accepts_evidence, read_row, read_times,
    net_text, times_text,
)
LOST_NETS_OF_THREE = tuple(net for net in LOST_NETS if net[0] == 3)


class RefusalTest(unittest.TestCase):
    def assert_refused(self, name, function, values):
        with self.assertRaises(BadValue, msg=(function, values)) as caught:
            function(*values)
        self.assertEqual(caught.exception.name, name, (function, values))

    def test_each_wrong_argument_alone(self):
        for function, arguments in REFUSING:
            for k, (name, _, wrong) in enumerate(arguments):
                for value in wrong:
                    values = [right for _, right, _ in arguments]
                    values[k] = value
                    self.assert_refused(name, function, values)

    def test_the_first_wrong_argument_is_named_if_later_ones_are_wrong_too(self):
        for function, arguments in REFUSING:
            for k, (name, _, wrong) in enumerate(arguments):
                later = [other[0] if other else None for _, _, other in arguments[k + 1:]]
                for value in wrong:
                    values = [right for _, right, _ in arguments[:k]] + [value] + later
                    self.assert_refused(name, function, values)

    def test_times_and_events_have_to_be_those_of_the_net(self):
        for function in (keeps, excess, first_broken):
            self.assert_refused("times", function, ((2, ()), (0, 0, 0)))
            self.assert_refused("times", function, ((4, ()), (0, 0, 0)))
        self.assert_refused("start", is_walk, ((2, ()), 2, 2, ()))
        self.assert_refused("end", is_walk, ((2, ()), 1, 2, ()))
        self.assert_refused("order", renamed, ((2, ()), (0, 1, 2)))
        self.assert_refused("chosen", part, ((2, ()), (0, 2)))
        self.assert_refused("rule", with_rule, ((2, ()), (0, 2, 1, 1)))
        self.assert_refused("rule", with_rule, ((1, ()), (0, 1, 1, 1)))
        self.assert_refused("walk", walk_length, ((2, ()), ((0, "high"),)))


class NotPossibleTest(unittest.TestCase):
    def assert_not_possible(self, why, function, values):
        with self.assertRaises(NotPossible, msg=(function, values)) as caught:
            function(*values)
        self.assertEqual(caught.exception.why, why, (function, values))

    def test_a_net_that_cannot_be_kept_is_refused_behind_all_wrong_arguments(self):
        self.assertGreater(len(LOST_NETS_OF_THREE), 2)
        for function, arguments in REFUSING:
            if function not in NEEDING_A_KEPT_NET + NOT_NEEDING_IT:
                continue
            for net in LOST_NETS_OF_THREE:
                right = [value for _, value, _ in arguments[1:]]
                if function in NEEDING_A_KEPT_NET:
                    self.assert_not_possible("net", function, [net] + right)
                else:
                    function(net, *right)
                for k, (name, _, wrong) in enumerate(arguments[1:]):
                    for value in wrong:
                        with self.assertRaises(BadValue) as caught:
                            function(net, *right[:k], value, *right[k + 1:])
                        self.assertEqual(caught.exception.name, name)

    def test_times_of_a_net_that_cannot_be_kept_never_keep_it(self):
        for function, more in (
            (states, ((),)), (behind, ((),)), (lived, ()), (replayed_state, ((),)), (are_right, ((),)),
        ):
            for net in LOST_NETS_OF_THREE:
                for times in ((0, 7, 9), (0, 0, 0), None):
                    with self.assertRaises(BadValue) as caught:
                        function(net, times, *more)
                    self.assertEqual(caught.exception.name, "times")

    def test_news_that_do_not_fit_are_refused_last(self):
        apart = ((0, 7), (1, 20))
        for function, more in ((repaired, ()), (repair, ()), (accepts_repair, (None,))):
            self.assert_not_possible("apart", function, (NET, (0, 7, 9), apart, *more))
            for values, name in (
                ((LOST_NETS_OF_THREE[0], (0, 7, 9), apart), "net"), ((NET, (0, 4, 9), apart), "times"),
                ((NET, (0, 7, 9), apart + ((0, 7),)), "row"),
            ):
                with self.assertRaises(BadValue) as caught:
                    function(*values, *more)
                self.assertEqual(caught.exception.name, name)
        self.assertIs(fit(NET, apart), False)
        self.assert_not_possible("apart", window, (NET, apart, 2))
        self.assert_not_possible("net", window, (LOST_NETS_OF_THREE[0], apart, 2))
        with self.assertRaises(BadValue) as caught:
            window(NET, apart, 3)
        self.assertEqual(caught.exception.name, "event")

    def test_what_is_let(self):
        self.assertIs(fits(NET, ((0, -500), (0, 500)) * 4), False)
        self.assertIs(fits(NET, ((0, 500),) * 8), True)
        self.assertEqual(limits(NET, ((0, -500), (0, 500)) * 4)[0], (500, 500))
        self.assertEqual(told(NET, (0, 7, 9), (2, -500)), (-505, -500, -500))
        self.assertIs(fit((6, ()), tuple((event, -500) for event in range(6))), True)
        self.assertEqual(states((1, ()), (1000,), ((0, 500),) * 8), ((500,),) * 8)

    def test_what_is_let_without_a_net(self):
        row = ((5, 500), (0, -500)) * 4
        steps = steps_of(row)
        self.assertEqual(len(steps), 16)
        self.assertIs(are_alike(row, row), True)
        self.assertIs(accepts_alike(row, row, alike_evidence(row, row)), True)
        self.assertEqual(shortest(row), row[-2:])
        self.assertEqual(left_out(row), (0, 1, 2, 3, 4, 5))
        self.assertEqual(remaining(steps), steps[-4:])
        self.assertEqual(reduced(steps, reduction(steps)), steps[-4:])
        self.assertEqual(idle_steps(steps), tuple(range(12)))
        self.assertIs(is_idle_by(steps, 0, 12), True)
        self.assertIs(is_idle_by(steps, 15, 0), False)
        self.assertIs(commute(("raise", 5, 500), ("lower", 5, -500)), False)
        self.assertEqual(layers(steps), tuple(steps[k:k + 2] for k in range(0, 16, 2)))
        self.assertEqual(stepped((6, ()), (0,) * 6, steps), (-500, 0, 0, 0, 0, 500))
        for function in (layers, idle_steps, remaining, reduction):
            self.assertEqual(function(()), ())


class EventsOfTheNetTest(unittest.TestCase):
    def test_news_and_events_have_to_be_those_of_the_net(self):
        net, times = (2, ()), (0, 0)
        for name, function, values in (
            ("start", bound_evidence, (net, 2, 2)), ("end", bound_evidence, (net, 1, 2)),
            ("start", accepts_bound, (net, 2, 2, 0, None)), ("end", accepts_bound, (net, 1, 2, 0, None)),
            ("news", told, (net, times, (2, 0))), ("row", fit, (net, ((2, 0),))),
            ("times", told, (net, (0, 0, 0), (2, 0))), ("times", repair, (net, (0,), ((2, 0),))),
            ("row", repaired, (net, times, ((2, 0),))), ("row", repair, (net, times, ((2, 0),))),
            ("row", accepts_repair, (net, times, ((2, 0),), None)),
            ("row", fits, (net, ((2, 0),))), ("row", evidence_for, (net, ((2, 0),))),
            ("row", accepts_evidence, (net, ((2, 0),), None)), ("row", window, (net, ((2, 0),), 2)),
            ("event", window, (net, ((1, 0),), 2)), ("row", fitting_beginning, (net, ((1, 0), (2, 0)))),
            ("times", states, (net, (0, 0, 0), ((2, 0),))), ("row", states, (net, times, ((2, 0),))),
            ("row", behind, (net, times, ((2, 0),))), ("row", limits, (net, ((2, 0),))),
            ("row", settled, (net, ((2, 0),))), ("event", limit_evidence, (net, ((1, 0),), 2)),
            ("event", accepts_limits, (net, ((1, 0),), 2, None, None)),
            ("steps", stepped, (net, times, (("raise", 2, 0),))),
            ("steps", stepped, (net, times, (("raise", 1, 0), ("lower", 2, 0)))),
            ("times", stepped, (net, (0, 0, 0), (("raise", 2, 0),))),
            ("index", is_idle_by, ((), 0, 0)), ("index", is_idle_by, (STEPS[:2], 2, 2)),
            ("by", is_idle_by, (STEPS[:2], 1, 2)),
            ("first", leads, (net, (0, 0, 0), (0, 0, 0), ())), ("second", leads, (net, times, (0,), (2,))),
            ("chosen", leads, (net, times, times, (2,))), ("chosen", leads, (net, times, times, (0, 1, 2))),
            ("event", carries, (net, times, times, 2, 2)), ("other", carries, (net, times, times, 1, 2)),
            ("row", accepts_way, (net, times, times, ((2, 0),), None)),
            ("event", Telling(net).tell, (2, 0)), ("event", Telling(net).evidence, (2, 0)),
            ("event", Telling(net).accepts, (2, 0, None)),
            ("times", times_text, (net, (0, 0, 0))), ("times", lived, (net, (0, 0, 0))),
            ("command", Live(net, times).act, (("tell", (2, 0)),)), ("news", Live(net, times).moves, ((2, 0),)),
            ("event", Live(net, times).room, (2,)), ("journal", replayed_state, (net, times, (("tell", (2, 0)),))),
            ("times", are_right, (net, (0, 0, 0), None)),
        ):
            with self.assertRaises(BadValue, msg=(function, values)) as caught:
                function(*values)
            self.assertEqual(caught.exception.name, name, (function, values))


class NothingIsModifiedTest(unittest.TestCase):
    def test_equal_arguments_have_equal_results(self):
        for function, arguments in REFUSING:
            values = [right for _, right, _ in arguments]
            before = copy.deepcopy(values)
            first = function(*values)
            self.assertEqual(values, before, function)
            self.assertEqual(function(*before), first, function)
            self.assertEqual(function(*values), first, function)

    def test_lists_that_are_asked_about_stay_as_they_are(self):
        wrong = [3, [[0, 1, 5, 10]]]
        self.assertIs(is_net(wrong), False)
        self.assertEqual(wrong, [3, [[0, 1, 5, 10]]])
        wrong = [0, 0, 0]
        self.assertIs(is_times(wrong, NET), False)
        self.assertEqual(wrong, [0, 0, 0])
        wrong = [(0, "high")]
        self.assertIs(is_walk(NET, 0, 1, wrong), False)
        self.assertEqual(wrong, [(0, "high")])

    def test_lists_that_are_judged_stay_as_they_are(self):
        for function, values in (
            (shows_kept, (NET, [0, 5, 5])), (shows_round, (NET, [(0, "high"), (0, "low")])),
            (accepts_bound, (NET, 0, 1, 10, [[(0, "high")], [0, 10, 10]])),
            (accepts_bound, (NET, 0, 1, [10], (((0, "high"),), [0, 10, 10]))),
            (accepts_repair, (NET, (0, 7, 9), ((0, 7), (2, 30)), (REPAIR[0], list(REPAIR[1])))),
            (accepts_evidence, (NET, ((0, 7),), ["fits", [7, 12, 12]])),
            (accepts_limits, (NET, ((0, 7),), 1, [12, 17], list(limit_evidence(NET, ((0, 7),), 1)))),
            (accepts_alike, (((0, 7), (0, 7)), ((0, 7),), [[[0, 2], [1, 3]], []])),
            (reduced, (STEPS, [[0, 2]])),
            (accepts_separation, (((0, 7),), ((0, 9),), [[0, 0], None, 8])), (is_place, ([[0, 3], [1, 3], 0],)),
            (accepts_way, (NET, (0, 5, 5), (7, 12, 12), ((0, 7),), [[(0, 0, 7, ())], [((0,), [6, 12, 12])]])),
            (accepts, (1, 12, ["fits", [4, 12, 12]])),
            (are_right, (NET, (0, 7, 9), [[("tell", (0, 0)), [(0, 7, 9), []]]])),
        ):
            before = copy.deepcopy(values)
            self.assertIs(function(*values), None if function is reduced else False, function)
            self.assertEqual(values, before, function)

    def test_a_refusal_has_no_effect_on_later_calls(self):
        for function, arguments in REFUSING:
            values = [right for _, right, _ in arguments]
            first = function(*values)
            with self.assertRaises(BadValue):
                function(None, *values[1:])
            self.assertEqual(function(*values), first, function)


if __name__ == "__main__":
    unittest.main()
