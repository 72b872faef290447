"""Points 96 to 105: telling events their times one by one, and the evidence for what can be told."""

import unittest
from itertools import permutations, product

from allbide.bounds import shows_kept, tight
from allbide.errors import BadValue, NotPossible
from allbide.fitting import window
from allbide.nets import keeps
from allbide.telling import Telling
from tests.oracles import distances, is_right, right_heights
from tests.samples import (
    LOST_NETS, NET, NO_INTEGERS, SHORT_NET, WRONG_EVENTS, WRONG_WALKS, AnyEqual, Numbers, kept_pairs, refused,
    sample_nets, walks_up_to,
)

# No tight bound from 0 to 2, and none between 3 and the others.
LOOSE_NET = (4, ((0, 1, 5, 10), (1, 2, 0, None)))


def telling_of(net, row):
    """A telling in which these pieces of news were told."""
    telling = Telling(net)
    for event, time in row:
        telling.tell(event, time)
    return telling


def windows_by_words(net, row):
    """The windows behind these pieces of news, as point 96 says it."""
    bounds = distances(net)
    found = []
    for c in range(net[0]):
        lows = [v - bounds[c][e] for e, v in row if bounds[c][e] is not None]
        highs = [v + bounds[e][c] for e, v in row if bounds[e][c] is not None]
        found.append((max(lows, default=None), min(highs, default=None)))
    return tuple(found)


def within(pair, time):
    low, high = pair
    return (low is None or low <= time) and (high is None or time <= high)


def drawn_tellings(seed, nets):
    """Nets that can be kept, with the news of tellings of some of their events, within the windows."""
    numbers = Numbers(seed)
    found = []
    for net, times in kept_pairs(seed, nets):
        row, events = [], list(range(net[0]))
        for _ in range(numbers.below(net[0] + 1)):
            event = events.pop(numbers.below(len(events)))
            low, high = windows_by_words(net, row)[event]
            time = times[event] + numbers.between(-9, 9)
            if low is not None:
                time = max(time, low)
            if high is not None:
                time = min(time, high)
            row.append((event, time))
        found.append((net, tuple(row)))
    return found


def state_of(telling):
    """All that a telling tells."""
    return telling.windows(), telling.told(), telling.heights()


class WindowsTest(unittest.TestCase):
    """Points 96, 97, 100 to 102."""

    def test_the_example_of_point_105(self):
        telling = Telling(SHORT_NET)
        self.assertEqual(telling.windows(), ((None, None),) * 3)
        self.assertEqual(telling.tell(1, 20), ((10, 15), (20, 20), (20, 75)))

    def test_windows_with_none_on_either_side(self):
        for row, expected in (
            ((), ((None, None),) * 4),
            (((0, 7),), ((7, 7), (12, 17), (12, None), (None, None))),
            (((1, 20),), ((10, 15), (20, 20), (20, None), (None, None))),
            (((2, 20),), ((None, 15), (None, 20), (20, 20), (None, None))),
            (((3, 20),), ((None, None), (None, None), (None, None), (20, 20))),
            (((2, 20), (0, 7)), ((7, 7), (12, 17), (20, 20), (None, None))),
            (((2, 13), (0, 7), (3, -500)), ((7, 7), (12, 13), (13, 13), (-500, -500))),
        ):
            self.assertEqual(telling_of(LOOSE_NET, row).windows(), expected, row)

    def test_as_point_96_says_it(self):
        for net, row in drawn_tellings(220, 150):
            telling = Telling(net)
            for k, (event, time) in enumerate(row):
                self.assertEqual(telling.tell(event, time), windows_by_words(net, row[:k + 1]), (net, row))
            self.assertEqual(telling.windows(), windows_by_words(net, row))
            for event in range(net[0]):
                self.assertEqual(telling.windows()[event], window(net, row, event))
            for event, time in row:
                self.assertEqual(telling.windows()[event], (time, time))

    def test_no_window_is_empty_and_some_heights_have_each_time_of_it(self):
        compared = 0
        for net in sample_nets()[::7]:
            found = right_heights(net, -9, 9) if net[0] < 4 else []
            for event, time in product(range(net[0]), (-1, 0, 2)) if found else []:
                telling = telling_of(net, ((event, time),))
                for other, (low, high) in enumerate(telling.windows()):
                    self.assertTrue(low is None or high is None or low <= high)
                    # Heights near to 0 show what can be, within the numbers that are tried.
                    shown = {heights[other] for heights in found if heights[event] == time}
                    self.assertEqual({t for t in range(-4, 5) if within((low, high), t)}, shown & {*range(-4, 5)})
                    compared += len(shown)
        self.assertGreater(compared, 500)

    def test_point_101_no_window_becomes_wider(self):
        for net, row in drawn_tellings(221, 120):
            telling = Telling(net)
            before = telling.windows()
            for event, time in row:
                after = telling.tell(event, time)
                for (low, high), (lower, higher) in zip(before, after):
                    self.assertTrue(low is None or (lower is not None and lower >= low))
                    self.assertTrue(high is None or (higher is not None and higher <= high))
                if before[event] == (time, time):
                    self.assertEqual(after, before)
                before = after

    def test_point_101_a_window_with_one_time_only(self):
        telling = telling_of(SHORT_NET, ((0, 0), (2, 5)))
        before = telling.windows()
        self.assertEqual(before, ((0, 0), (5, 5), (5, 5)))
        self.assertEqual(telling.tell(1, 5), before)
        self.assertEqual(telling.told(), ((0, 0), (2, 5), (1, 5)))

    def test_point_102_the_same_news_in_another_sequence(self):
        for net, row in drawn_tellings(222, 60):
            windows = telling_of(net, row).windows()
            for other in list(permutations(row))[:24]:
                self.assertEqual(telling_of(net, other).windows(), windows)


class TellTest(unittest.TestCase):
    """Points 97, 98, 103 and 104."""

    def test_within_and_beyond_a_window_by_one(self):
        for event, least, greatest in ((0, 10, 15), (2, 20, 75)):
            for time in (least - 1, least, greatest, greatest + 1):
                telling = telling_of(SHORT_NET, ((1, 20),))
                before = state_of(telling)
                if least <= time <= greatest:
                    windows = telling.tell(event, time)
                    self.assertEqual(windows[event], (time, time))
                    self.assertEqual(telling.told(), ((1, 20), (event, time)))
                else:
                    self.assertEqual(refused(telling.tell, event, time), (NotPossible, "window"))
                    self.assertEqual(state_of(telling), before)

    def test_beside_several_events_that_were_told(self):
        for net, row in drawn_tellings(223, 80):
            told = [event for event, _ in row]
            for event in range(net[0]):
                low, high = windows_by_words(net, row)[event]
                for time in {-500, 500, *[t + k for t in (low, high) if t is not None for k in (-1, 0, 1)]}:
                    telling = telling_of(net, row)
                    if event in told:
                        expected = (NotPossible, "told")
                    elif not -500 <= time <= 500:
                        expected = (BadValue, "time")
                    else:
                        expected = None if within((low, high), time) else (NotPossible, "window")
                    if event not in told or -500 <= time <= 500:
                        self.assertEqual(refused(telling.tell, event, time), expected, (net, row, event, time))

    def test_point_103_the_sequence_of_the_told_news(self):
        telling = Telling((4, ()))
        for k, news in enumerate(((2, 7), (0, -500), (3, 500), (1, 7))):
            telling.tell(*news)
            self.assertEqual(telling.told(), ((2, 7), (0, -500), (3, 500), (1, 7))[:k + 1])
        self.assertEqual(telling.heights(), (-500, 7, 7, 500))

    def test_point_98_kept_times_can_be_told_in_every_sequence(self):
        for net, times in kept_pairs(224, 40, sizes=(1, 2, 3, 4, 5), far=40):
            for order in permutations(range(net[0])):
                telling = Telling(net)
                for event in order:
                    telling.tell(event, times[event])
                self.assertEqual(telling.heights(), times)
                self.assertEqual(telling.windows(), tuple((time, time) for time in times))
                self.assertIs(keeps(net, telling.heights()), True)

    def test_point_98_the_telling_can_be_carried_on_until_all_events_are_told(self):
        numbers = Numbers(225)
        for net, row in drawn_tellings(226, 80):
            telling = telling_of(net, row)
            told = [event for event, _ in row]
            for event in range(net[0]):
                if event not in told:
                    low, high = telling.windows()[event]
                    if low is None and high is None:
                        time = numbers.between(-500, 500)
                    else:
                        time = numbers.choice([t for t in (low, high) if t is not None])
                    if not -500 <= time <= 500:
                        break
                    telling.tell(event, time)
            else:
                self.assertIs(keeps(net, telling.heights()), True)
                self.assertEqual(telling.heights(), tuple(time for _, time in sorted(telling.told())))

    def test_point_98_a_window_without_a_time_that_can_be_told(self):
        telling = telling_of((2, ((0, 1, 1, 100),)), ((0, 500),))
        self.assertEqual(telling.windows(), ((500, 500), (501, 600)))
        self.assertEqual(refused(telling.tell, 1, 500), (NotPossible, "window"))
        self.assertEqual(refused(telling.tell, 1, 501), (BadValue, "time"))


class HeightsTest(unittest.TestCase):
    """Points 97 and 103."""

    def test_right_heights_with_all_told_times(self):
        for net, row in drawn_tellings(227, 120):
            telling = Telling(net)
            for k in range(len(row) + 1):
                heights = telling.heights()
                self.assertIs(type(heights), tuple)
                self.assertTrue(is_right(net, heights))
                self.assertIs(shows_kept(net, heights), True)
                for event, time in row[:k]:
                    self.assertEqual(heights[event], time)
                if k < len(row):
                    telling.tell(*row[k])

    def test_of_a_telling_with_nothing_told(self):
        for net in ((1, ()), NET, SHORT_NET, LOOSE_NET, (6, tuple((k, k + 1, 100, 100) for k in range(5)))):
            self.assertTrue(is_right(net, Telling(net).heights()))


class TakeBackTest(unittest.TestCase):
    """Point 100."""

    def test_windows_are_as_before(self):
        for net, row in drawn_tellings(228, 80):
            telling = Telling(net)
            states = []
            for news in row:
                states.append(state_of(telling))
                telling.tell(*news)
            for news, state in zip(reversed(row), reversed(states)):
                self.assertEqual(telling.take_back(), news)
                self.assertEqual(state_of(telling), state)
            self.assertIsNone(telling.take_back())

    def test_when_nothing_was_told(self):
        telling = Telling(SHORT_NET)
        self.assertIsNone(telling.take_back())
        self.assertIsNone(telling.take_back())
        self.assertEqual(telling.told(), ())
        telling.tell(1, 20)
        self.assertEqual(telling.take_back(), (1, 20))
        self.assertIsNone(telling.take_back())
        self.assertEqual(telling.windows(), ((None, None),) * 3)

    def test_what_was_taken_back_can_be_told_again_or_otherwise(self):
        telling = telling_of(SHORT_NET, ((1, 20), (2, 72)))
        self.assertEqual(telling.take_back(), (2, 72))
        self.assertEqual(telling.windows(), ((10, 15), (20, 20), (20, 75)))
        self.assertEqual(telling.tell(2, 21), ((10, 15), (20, 20), (21, 21)))
        self.assertEqual(telling.take_back(), (2, 21))
        self.assertEqual(telling.tell(0, 15), ((15, 15), (20, 20), (20, 75)))
        self.assertEqual(telling.told(), ((1, 20), (0, 15)))


class EvidenceTest(unittest.TestCase):
    """Point 99."""

    def told(self):
        return telling_of(SHORT_NET, ((1, 20), (2, 72)))

    def test_the_told_evidence_is_accepted_and_of_the_right_kind(self):
        words = []
        for net, row in drawn_tellings(229, 80):
            telling = telling_of(net, row)
            before = state_of(telling)
            for event in range(net[0]):
                pair = windows_by_words(net, row)[event]
                times = {-1000, 1000, 0, *[t + k for t in pair if t is not None for k in (-1, 0, 1)]}
                for time in times:
                    value = telling.evidence(event, time)
                    words.append(value[0])
                    self.assertIs(value[0] == "fits", within(pair, time), (net, row, event, time))
                    if value[0] != "fits":
                        self.assertEqual(value[0], "early" if within((None, pair[1]), time) else "late")
                    self.assertIs(telling.accepts(event, time, value), True, (net, row, event, time, value))
                    self.assertEqual(telling.evidence(event, time), value)
            self.assertEqual(state_of(telling), before)
        for word in ("early", "late", "fits"):
            self.assertGreater(words.count(word), 100)

    def test_drawn_walks_and_heights(self):
        # Of each kind there is evidence exactly if it is so.
        for net, times in kept_pairs(230, 25, sizes=(2, 3), far=4):
            if len(net[1]) > 4:
                continue
            walks = walks_up_to(net, 2)
            near = right_heights(net, -7, 7)
            row = ((0, times[0]),)
            telling = telling_of(net, row)
            for event, time in product(range(net[0]), range(-6, 7)):
                inside = within(windows_by_words(net, row)[event], time)
                shown = False
                for walk, start, end, length in walks:
                    if walk == () and start != event:
                        continue
                    early = start == event and end == 0 and time < times[0] - length
                    late = start == 0 and end == event and time > times[0] + length
                    shown = shown or early or late
                    self.assertIs(telling.accepts(event, time, ("early", 0, walk)), early)
                    self.assertIs(telling.accepts(event, time, ("late", 0, walk)), late)
                self.assertIs(shown, not inside)
                found = [heights for heights in near if heights[0] == times[0] and heights[event] == time]
                self.assertTrue(inside or not found)
                for heights in near[::7] + found:
                    right = heights in found
                    self.assertIs(telling.accepts(event, time, ("fits", heights)), right)

    def test_each_form_just_within_and_just_beyond_the_window(self):
        early, late = ("early", 2, ((2, "high"),)), ("late", 1, ((0, "low"),))
        for time, word in ((11, "early"), (12, "fits"), (13, "fits"), (15, "fits"), (16, "late")):
            telling = self.told()
            fits = ("fits", (time, 20, 72))
            for value in (early, late, fits):
                self.assertIs(telling.accepts(0, time, value), value[0] == word, (time, value))
            self.assertEqual(telling.evidence(0, time)[0], word)

    def test_the_times_that_can_be_asked_for(self):
        telling = telling_of((2, ((0, 1, None, 100),)), ((0, 500),))
        for time, word in ((-1000, "fits"), (600, "fits"), (601, "late"), (1000, "late")):
            value = telling.evidence(1, time)
            self.assertEqual(value[0], word)
            self.assertIs(telling.accepts(1, time, value), True)
        # Heights of the other events can be beyond all times.
        telling = Telling((2, ((0, 1, 100, 100),)))
        self.assertEqual(telling.evidence(0, 1000), ("fits", (1000, 1100)))
        self.assertIs(telling.accepts(0, 1000, ("fits", (1000, 1100))), True)

    def test_an_event_that_was_told_with_its_own_time_and_with_another_one(self):
        telling = self.told()
        self.assertEqual(telling.evidence(1, 20)[0], "fits")
        self.assertIs(telling.accepts(1, 20, ("fits", (13, 20, 72))), True)
        self.assertIs(telling.accepts(1, 21, ("fits", (13, 21, 72))), False)
        self.assertIs(telling.accepts(1, 19, ("fits", (13, 20, 72))), False)
        for time, word in ((19, "early"), (-1000, "early"), (21, "late"), (1000, "late")):
            value = telling.evidence(1, time)
            self.assertEqual(value[0], word)
            self.assertIs(telling.accepts(1, time, value), True)
            self.assertIs(telling.accepts(1, time, (word, 1, ())), True)
            self.assertIs(telling.accepts(1, 20, value), False)
        self.assertIs(telling.accepts(1, 20, ("early", 1, ())), False)
        self.assertIs(telling.accepts(1, 20, ("late", 1, ())), False)
        # A walk around is longer by 5, and shows less.
        around = ((0, "high"), (0, "low"))
        walk = around[::-1]
        self.assertIs(telling.accepts(1, 14, ("early", 1, walk)), True)
        self.assertIs(telling.accepts(1, 15, ("early", 1, walk)), False)
        self.assertIs(telling.accepts(1, 26, ("late", 1, walk)), True)
        self.assertIs(telling.accepts(1, 25, ("late", 1, walk)), False)
        self.assertIs(telling.accepts(1, 26, ("late", 1, around)), False)

    def test_other_walks_of_an_event_that_was_told(self):
        telling = self.told()
        for time, value, right in (
            # Also along 1, that was told, too; and by less than the best walk.
            (0, ("early", 1, ((0, "high"),)), True), (9, ("early", 1, ((0, "high"),)), True),
            (10, ("early", 1, ((0, "high"),)), False), (11, ("early", 2, ((2, "high"),)), True),
            (12, ("early", 2, ((2, "high"),)), False), (16, ("late", 1, ((0, "low"),)), True),
            (15, ("late", 1, ((0, "low"),)), False), (67, ("late", 2, ((1, "low"), (0, "low"))), False),
            (68, ("late", 2, ((1, "low"), (0, "low"))), True),
        ):
            self.assertIs(telling.accepts(0, time, value), right, (time, value))

    def test_a_word_an_event_or_an_edge_changed(self):
        telling = self.told()
        for value in (
            ("late", 2, ((2, "high"),)), ("fits", 2, ((2, "high"),)), ("Early", 2, ((2, "high"),)),
            ("", 2, ((2, "high"),)), ("earl", 2, ((2, "high"),)), (b"early", 2, ((2, "high"),)),
            ("early", 1, ((2, "high"),)), ("early", 0, ((2, "high"),)), ("early", 3, ((2, "high"),)),
            ("early", -1, ((2, "high"),)), ("early", 2, ((2, "low"),)), ("early", 2, ((1, "high"),)),
            ("early", 2, ((0, "high"),)), ("early", 2, ()), ("early", 2, ((2, "high"), (1, "low"))),
            ("early", 2, [(2, "high")]), ("early", 2, ([2, "high"],)), ("early", 2, None), ("early", None, ()),
            ("early", 2), ("early",), ("early", 2, ((2, "high"),), ()), ["early", 2, ((2, "high"),)],
            ("early", [2], ((2, "high"),)), ("early", (2,), ((2, "high"),)), ("early", AnyEqual(), ((2, "high"),)),
            (AnyEqual(), 2, ((2, "high"),)), ("early", 2, AnyEqual()), ("early", 2.0, ((2, "high"),)),
        ):
            self.assertIs(telling.accepts(0, 11, value), False, value)
        self.assertIs(telling.accepts(0, 500, ("late", 1, ((0, "low"),))), True)
        for walk in WRONG_WALKS:
            self.assertIs(telling.accepts(0, 500, ("late", 1, walk)), False, walk)
        for other in WRONG_EVENTS:
            self.assertIs(telling.accepts(0, 11, ("early", other, ((2, "high"),))), False, other)
            self.assertIs(telling.accepts(0, 500, ("late", other, ((0, "low"),))), False, other)

    def test_a_word_changed_beside_a_walk_to_the_event(self):
        telling = self.told()
        self.assertIs(telling.accepts(0, 16, ("late", 1, ((0, "low"),))), True)
        for word in ("early", "fits", "Late", "LATE", "lat", "late ", "", b"late", None, True, ("late",), AnyEqual()):
            self.assertIs(telling.accepts(0, 16, (word, 1, ((0, "low"),))), False, word)

    def test_an_event_that_was_not_told_shows_nothing(self):
        telling = telling_of(SHORT_NET, ((1, 20),))
        self.assertIs(telling.accepts(0, -900, ("early", 1, ((0, "high"),))), True)
        self.assertIs(telling.accepts(0, -900, ("early", 2, ((2, "high"),))), False)
        self.assertIs(telling.accepts(0, 900, ("late", 0, ())), False)
        self.assertIs(Telling(SHORT_NET).accepts(0, 900, ("late", 1, ((0, "low"),))), False)
        telling.take_back()
        self.assertIs(telling.accepts(0, -900, ("early", 1, ((0, "high"),))), False)

    def test_heights_changed(self):
        telling = self.told()
        self.assertIs(telling.accepts(0, 14, ("fits", (14, 20, 72))), True)
        for heights in (
            (13, 20, 72), (15, 20, 72), (14, 21, 72), (14, 19, 72), (14, 20, 73), (14, 20, 71), (14, 20),
            (14, 20, 72, 72), [14, 20, 72], (), None, True, 0, "fits", AnyEqual(), (14, 20, AnyEqual()),
            (14.0, 20, 72), (14, 20, None),
        ):
            self.assertIs(telling.accepts(0, 14, ("fits", heights)), False, heights)
        for value in NO_INTEGERS:
            self.assertIs(telling.accepts(0, 14, ("fits", (value, 20, 72))), False)
        # Heights that have all times, but are not right.
        self.assertIs(telling.accepts(0, 16, ("fits", (16, 20, 72))), False)
        self.assertIs(telling.accepts(0, 11, ("fits", (11, 20, 72))), False)

    def test_values_of_other_kinds(self):
        telling = self.told()
        for value in (
            None, True, 0, "", "fits", (), ("fits",), ("fits", (14, 20, 72), ()), ["fits", (14, 20, 72)],
            ((14, 20, 72), "fits"), (None, (14, 20, 72)), (0, (14, 20, 72)), ("early", (14, 20, 72)), {}, AnyEqual(),
            (AnyEqual(), (14, 20, 72)), (AnyEqual(), AnyEqual()), (("fits",), (14, 20, 72)), ("fits", 0, ()),
            ("late", (14, 20, 72)), ("fit", (14, 20, 72)), ("FITS", (14, 20, 72)),
        ):
            self.assertIs(telling.accepts(0, 14, value), False, value)
            self.assertIs(telling.accepts(0, 11, value), False, value)
            self.assertIs(telling.accepts(0, 16, value), False, value)


class RefusalsTest(unittest.TestCase):
    """Points 2, 8 and 104."""

    def test_nets_that_cannot_be_kept(self):
        for net in LOST_NETS:
            self.assertEqual(refused(Telling, net), (NotPossible, "net"))

    def test_the_order_of_the_refusals(self):
        telling = telling_of(SHORT_NET, ((1, 20),))
        before = state_of(telling)
        for event, time, expected in (
            (3, 501, (BadValue, "event")), (3, 0, (BadValue, "event")), (1, 501, (BadValue, "time")),
            (1, -501, (BadValue, "time")), (0, 501, (BadValue, "time")), (1, 0, (NotPossible, "told")),
            (1, 20, (NotPossible, "told")), (0, 500, (NotPossible, "window")), (0, -500, (NotPossible, "window")),
            (2, 500, (NotPossible, "window")),
        ):
            self.assertEqual(refused(telling.tell, event, time), expected, (event, time))
            self.assertEqual(state_of(telling), before)
        for value in NO_INTEGERS:
            self.assertEqual(refused(telling.tell, 1, value), (BadValue, "time"))
            self.assertEqual(refused(telling.tell, value, value), (BadValue, "event"))
            self.assertEqual(state_of(telling), before)

    def test_the_greatest_times(self):
        for time in (-500, 500):
            telling = Telling((2, ()))
            self.assertEqual(telling.tell(0, time), ((time, time), (None, None)))
            self.assertEqual(refused(telling.tell, 1, time + time // 500), (BadValue, "time"))
        telling = Telling(SHORT_NET)
        for event, time in product(range(3), (-1000, 1000)):
            self.assertIs(telling.accepts(event, time, telling.evidence(event, time)), True)
            self.assertEqual(refused(telling.evidence, event, time + time // 1000), (BadValue, "time"))
            self.assertEqual(refused(telling.accepts, event, time + time // 1000, None), (BadValue, "time"))
        for value in NO_INTEGERS:
            self.assertEqual(refused(telling.evidence, 0, value), (BadValue, "time"))
            self.assertEqual(refused(telling.accepts, 0, value, None), (BadValue, "time"))
        for event in WRONG_EVENTS:
            self.assertEqual(refused(telling.evidence, event, 1001), (BadValue, "event"))
            self.assertEqual(refused(telling.accepts, event, 1001, None), (BadValue, "event"))

    def test_two_tellings_of_one_net_do_not_change_each_other(self):
        one, other = Telling(SHORT_NET), Telling(SHORT_NET)
        one.tell(1, 20)
        self.assertEqual(state_of(other), state_of(Telling(SHORT_NET)))
        other.tell(0, 100)
        self.assertEqual(one.windows(), ((10, 15), (20, 20), (20, 75)))
        self.assertEqual(one.told(), ((1, 20),))
        self.assertEqual(other.take_back(), (0, 100))
        self.assertIsNone(other.take_back())
        self.assertEqual(one.take_back(), (1, 20))

    def test_the_same_news_lead_to_equal_tellings(self):
        for net, row in drawn_tellings(231, 40):
            self.assertEqual(state_of(telling_of(net, row)), state_of(telling_of(net, row)))

    def test_an_event_with_a_fixed_distance(self):
        # The window of an event can be a single time before it is told.
        telling = telling_of((2, ((0, 1, 7, 7),)), ((0, -3),))
        self.assertEqual(telling.windows()[1], (4, 4))
        self.assertEqual(tight((2, ((0, 1, 7, 7),))), ((0, 7), (-7, 0)))
        self.assertEqual(refused(telling.tell, 1, 5), (NotPossible, "window"))
        self.assertEqual(telling.tell(1, 4), ((-3, -3), (4, 4)))


if __name__ == "__main__":
    unittest.main()
