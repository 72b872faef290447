"""Points 117 to 121 and 124 to 127: live nets, their commands, undoing, rooms and twins."""

import unittest
from itertools import permutations, product

from allbide.alike import are_alike, shortest
from allbide.effects import behind
from allbide.errors import BadValue, NotPossible, TooLarge
from allbide.journals import replayed
from allbide.live import Live
from allbide.nets import keeps
from allbide.repair import accepts_repair
from tests.lives import SHORTEN, TIMES, drawn_command, drawn_lives, state_of
from tests.oracles import all_fit, distances, told_all, told_jointly, told_one
from tests.samples import (
    NET, NO_INTEGERS, SHORT_NET, WRONG_COMMANDS, WRONG_EVENTS, WRONG_NEWS, AnyEqual, Numbers, kept_pairs, refused,
)


class CommandsTest(unittest.TestCase):
    """Points 117 and 118."""

    def test_a_new_live_net(self):
        live = Live(SHORT_NET, TIMES)
        self.assertEqual(state_of(live), (SHORT_NET, TIMES, (), (), ()))

    def test_the_example_of_point_127(self):
        live = Live(SHORT_NET, TIMES)
        for news in ((0, 7), (0, 9), (0, 7)):
            live.act(("tell", news))
        self.assertEqual(live.row(), ((0, 7), (0, 9), (0, 7)))
        live.act(SHORTEN)
        self.assertEqual(live.row(), ((0, 9), (0, 7)))
        self.assertIs(are_alike(((0, 9), (0, 7)), ((0, 7), (0, 9), (0, 7))), True)
        self.assertIs(are_alike(((0, 7),), ((0, 9), (0, 7))), False)
        # 1 is moved by the second one.
        self.assertEqual((live.times()[1], told_one(SHORT_NET, TIMES, (0, 7))[1]), (14, 12))

    def test_each_command_and_what_it_leads_to(self):
        live = Live(SHORT_NET, TIMES)
        journal = ()
        for command, times, row in (
            (("tell", (0, 7)), (7, 12, 30), ((0, 7),)),
            (("join", ()), (7, 12, 30), ((0, 7),)),
            (("tell", (0, 9)), (9, 14, 30), ((0, 7), (0, 9))),
            (("tell", (0, 7)), (7, 14, 30), ((0, 7), (0, 9), (0, 7))),
            (SHORTEN, (7, 14, 30), ((0, 9), (0, 7))),
            (("join", ((2, 102), (1, 100))), (90, 100, 102), ((0, 9), (0, 7), (2, 102), (1, 100))),
            (("tell", (2, -500)), (-505, -500, -500), ((0, 9), (0, 7), (2, 102), (1, 100), (2, -500))),
        ):
            journal += (command,)
            self.assertEqual(live.act(command), len(journal), command)
            self.assertEqual((live.times(), live.row(), live.journal()), (times, row, journal))

    def test_a_row_that_is_shortened_becomes_its_shortest_row(self):
        for row in (
            (), ((0, 7),), ((0, 7), (0, 7)), ((0, 7), (0, 9), (0, 7)), ((0, 7), (1, 15), (0, 7), (0, 8)),
            ((0, 7), (0, 8), (0, 9), (0, 10), (0, 11), (0, 12), (0, 13), (0, 14)),
        ):
            live = replayed(SHORT_NET, TIMES, tuple(("tell", news) for news in row))
            before = live.times()
            self.assertEqual(live.act(SHORTEN), len(row) + 1)
            self.assertEqual(live.row(), shortest(row))
            self.assertIs(are_alike(live.row(), row), True)
            self.assertEqual(live.times(), before)

    def test_drawn_commands_as_point_118_says_it(self):
        answers = {}
        numbers = Numbers(270)
        for net, first in kept_pairs(271, 70):
            live = Live(net, first)
            times, row, journal = first, (), ()
            for _ in range(16):
                command = drawn_command(net, times, numbers)
                news = () if command == SHORTEN else (command[1],) if command[0] == "tell" else command[1]
                if len(row) + len(news) > 8:
                    expected = NotPossible, "many"
                else:
                    expected = None if all_fit(net, news) else (NotPossible, "apart")
                self.assertEqual(refused(live.act, command), expected, (net, first, journal, command))
                answers[expected, command[0]] = answers.get((expected, command[0]), 0) + 1
                if expected is None:
                    times = told_jointly(net, times, news)
                    row = shortest(row) if command == SHORTEN else row + news
                    journal += (command,)
                self.assertEqual((live.times(), live.row(), live.journal()), (times, row, journal))
        for expected, word in product((None, (NotPossible, "many")), ("tell", "join")):
            self.assertGreater(answers[expected, word], 10)
        self.assertGreater(answers[(NotPossible, "apart"), "join"], 10)

    def test_times_are_those_that_come_when_the_row_is_told_to_the_first_times(self):
        for net, times, journal in drawn_lives(272, 60):
            live = Live(net, times)
            for command in journal:
                live.act(command)
                self.assertEqual(live.times(), told_all(net, times, live.row()))
                self.assertEqual(live.times(), behind(net, times, live.row()))
                self.assertIs(keeps(net, live.times()), True)


class NotPossibleTest(unittest.TestCase):
    """Point 118."""

    def filled(self, many):
        """A live net whose row has so many pieces of news."""
        return replayed(SHORT_NET, TIMES, tuple(("tell", (0, k)) for k in range(many)))

    def test_many_news(self):
        for many in range(9):
            for joined in range(4):
                live = self.filled(many)
                before = state_of(live)
                command = "join", tuple((event, live.times()[event]) for event in range(joined))
                if many + joined > 8:
                    self.assertEqual(refused(live.act, command), (NotPossible, "many"))
                    self.assertEqual(state_of(live), before)
                else:
                    self.assertEqual(live.act(command), many + 1)
                    self.assertEqual(len(live.row()), many + joined)
            live = self.filled(many)
            before = state_of(live)
            if many == 8:
                self.assertEqual(refused(live.act, ("tell", (1, 30))), (NotPossible, "many"))
                self.assertEqual(state_of(live), before)
            else:
                self.assertEqual(live.act(("tell", (1, 30))), many + 1)

    def test_joint_news_of_none_to_six_pieces(self):
        net, times = (6, tuple((k, k + 1, 1, 9) for k in range(5))), (0, 2, 4, 6, 8, 10)
        for many in range(7):
            for events in ((0, 1, 2, 3, 4, 5), (5, 2, 0, 4, 1, 3)):
                live = Live(net, times)
                news = tuple((event, 3 * event) for event in events[:many])
                self.assertEqual(live.act(("join", news)), 1)
                self.assertEqual(live.row(), news)
                self.assertEqual(live.times(), told_jointly(net, times, news))
        live = Live(net, times)
        self.assertEqual(refused(live.act, ("join", tuple((k % 6, 0) for k in range(7)))), (BadValue, "command"))

    def test_eight_pieces_of_joint_news(self):
        live = Live((6, ()), (0,) * 6)
        live.act(("join", tuple((event, 1) for event in range(6))))
        before = state_of(live)
        self.assertEqual(refused(live.act, ("join", ((0, 2), (1, 2), (2, 2)))), (NotPossible, "many"))
        self.assertEqual(state_of(live), before)
        self.assertEqual(live.act(("join", ((0, 2), (1, 2)))), 2)
        self.assertEqual(len(live.row()), 8)
        self.assertEqual(live.act(("join", ())), 3)
        self.assertEqual(refused(live.act, ("join", ((5, 2),))), (NotPossible, "many"))
        self.assertEqual(live.act(SHORTEN), 4)

    def test_news_that_are_apart(self):
        live = Live(SHORT_NET, TIMES)
        before = state_of(live)
        for news in (((0, 7), (1, 20)), ((1, 20), (0, 7)), ((0, 7), (2, 68)), ((0, 7), (1, 12), (2, 68))):
            self.assertEqual(refused(live.act, ("join", news)), (NotPossible, "apart"))
            self.assertEqual(state_of(live), before)
        self.assertEqual(live.act(("join", ((0, 7), (1, 12), (2, 67)))), 1)
        # One piece behind the other it is possible.
        live.act(("tell", (0, 7)))
        self.assertEqual(live.act(("tell", (1, 20))), 3)

    def test_many_comes_ahead_of_apart(self):
        for many, why in ((6, "apart"), (7, "many"), (8, "many")):
            live = self.filled(many)
            self.assertEqual(refused(live.act, ("join", ((0, 7), (1, 20)))), (NotPossible, why))


class JournalTest(unittest.TestCase):
    """Points 119, 124 and 125."""

    def test_undoing_each_kind_of_command(self):
        live = Live(SHORT_NET, TIMES)
        self.assertIsNone(live.undo())
        self.assertEqual(state_of(live), (SHORT_NET, TIMES, (), (), ()))
        for command in (
            ("tell", (0, 7)), ("join", ((1, 14), (2, 14))), ("tell", (1, 14)), SHORTEN, ("join", ()), SHORTEN,
            ("tell", (2, -100)),
        ):
            before = state_of(live)
            live.act(command)
            self.assertEqual(live.undo(), command)
            self.assertEqual(state_of(live), before)
            live.act(command)
        self.assertEqual(live.undo(), ("tell", (2, -100)))
        self.assertEqual(live.undo(), SHORTEN)

    def test_undoing_all_commands(self):
        for net, times, journal in drawn_lives(273, 40):
            live = Live(net, times)
            states = []
            for command in journal:
                states.append(state_of(live))
                live.act(command)
            for command, state in zip(reversed(journal), reversed(states)):
                self.assertEqual(live.undo(), command)
                self.assertEqual(state_of(live), state)
            self.assertIsNone(live.undo())
            self.assertEqual(state_of(live), (net, times, (), (), ()))

    def test_a_replayed_live_net(self):
        for net, times, journal in drawn_lives(274, 40):
            live = Live(net, times)
            for command in journal:
                live.act(command)
            self.assertEqual(state_of(replayed(net, times, journal)), state_of(live))
            self.assertEqual(live.journal(), journal)
            # What was undone is as if it had never been.
            live.undo()
            self.assertEqual(state_of(replayed(net, times, journal[:-1])), state_of(live))

    def test_other_commands_behind_undone_ones(self):
        live = Live(SHORT_NET, TIMES)
        for command in (("tell", (0, 7)), ("tell", (0, 9))):
            live.act(command)
        live.undo()
        live.act(("tell", (1, 40)))
        self.assertEqual(state_of(live), state_of(replayed(SHORT_NET, TIMES, (("tell", (0, 7)), ("tell", (1, 40))))))

    def test_point_124_shortening_twice(self):
        for net, times, journal in drawn_lives(275, 50, 10):
            live = replayed(net, times, journal)
            before = live.row()
            live.act(SHORTEN)
            once = live.row(), live.times()
            self.assertLessEqual(len(once[0]), len(before))
            live.act(SHORTEN)
            self.assertEqual((live.row(), live.times()), once)
            self.assertEqual(live.journal(), journal + (SHORTEN, SHORTEN))
            live.undo()
            live.undo()
            self.assertEqual(live.row(), before)

    def test_point_125_twins(self):
        for net, times, journal in drawn_lives(276, 30, 8):
            live = replayed(net, times, journal)
            state = state_of(live)
            twin = live.twin()
            self.assertIs(type(twin), Live)
            self.assertEqual(state_of(twin), state)
            # What is done to the one does not change the other.
            twin.act(SHORTEN)
            twin.act(("join", ()))
            self.assertEqual(state_of(live), state)
            after = state_of(twin)
            for _ in journal:
                live.undo()
            self.assertIsNone(live.undo())
            self.assertEqual(state_of(twin), after)
            for command in (("join", ()), SHORTEN):
                self.assertEqual(twin.undo(), command)
            for command in reversed(journal):
                self.assertEqual(twin.undo(), command)
            self.assertEqual(state_of(twin), (net, times, (), (), ()))

    def test_twins_of_an_empty_journal_and_of_a_twin(self):
        live = Live(SHORT_NET, TIMES)
        twin = live.twin()
        other = twin.twin()
        live.act(("tell", (0, 7)))
        twin.act(("tell", (0, 9)))
        self.assertEqual([each.times() for each in (live, twin, other)], [(7, 12, 30), (9, 14, 30), TIMES])
        self.assertEqual(live.journal(), (("tell", (0, 7)),))
        self.assertEqual((twin.journal(), other.journal()), ((("tell", (0, 9)),), ()))

    def test_two_live_nets_do_not_change_each_other(self):
        one, other = Live(SHORT_NET, TIMES), Live(SHORT_NET, TIMES)
        one.act(("tell", (0, 7)))
        self.assertEqual(state_of(other), (SHORT_NET, TIMES, (), (), ()))
        other.act(("tell", (2, 6)))
        self.assertEqual(one.journal(), (("tell", (0, 7)),))


class BoundsOfTimesTest(unittest.TestCase):
    """Point 120."""

    CHAIN = (6, tuple((k, k + 1, 100, 100) for k in range(5)))

    def test_the_farthest_times(self):
        live = Live(self.CHAIN, (500, 600, 700, 800, 900, 1000))
        live.act(("tell", (5, -500)))
        self.assertEqual(live.times(), (-1000, -900, -800, -700, -600, -500))
        live.act(("tell", (0, 500)))
        self.assertEqual(live.times(), (500, 600, 700, 800, 900, 1000))
        live = Live((1, ()), (1000,))
        live.act(("tell", (0, 500)))
        self.assertEqual(live.times(), (500,))

    def test_times_stay_from_minus_1000_to_1000(self):
        numbers = Numbers(277)
        reached = []
        for _ in range(150):
            order = list(range(6))
            for k in range(5):
                other = numbers.between(k, 5)
                order[k], order[other] = order[other], order[k]
            rules, sides = [], numbers.choice(((-100,), (100,), (-100, 100)))
            for start, end in zip(order, order[1:]):
                side = numbers.choice(sides)
                rules.append((start, end) + numbers.choice(((side, side), (side, None), (None, side))))
            net = 6, tuple(rules)
            times = [0] * 6
            for start, end, low, high in rules:
                times[end] = times[start] + (high if low is None else low)
            live = Live(net, tuple(times))
            for _ in range(8):
                live.act(("tell", (numbers.below(6), numbers.choice((-500, 500)))))
                reached.extend(live.times())
                self.assertTrue(all(-1000 <= time <= 1000 for time in live.times()))
        self.assertEqual((min(reached), max(reached)), (-1000, 1000))


class RoomTest(unittest.TestCase):
    """Point 121."""

    def test_rooms_by_hand(self):
        live = replayed(SHORT_NET, TIMES, (("tell", (0, 7)), ("tell", (0, 9)), ("tell", (0, 7))))
        self.assertEqual(live.times(), (7, 14, 30))
        self.assertEqual([live.room(event) for event in range(3)], [(4, 9), (12, 17), (14, 67)])
        for net, times, rooms in (
            (NET, (0, 5, 8), [(-5, 0), (5, 8), (5, None)]), ((2, ()), (3, 4), [(None, None), (None, None)]),
            ((1, ()), (7,), [(None, None)]), ((2, ((0, 1, 3, None),)), (0, 9), [(None, 6), (3, None)]),
            ((2, ((0, 1, None, 3),)), (0, 1), [(-2, None), (None, 3)]),
            ((2, ((0, 1, 3, 3),)), (0, 3), [(0, 0), (3, 3)]),
            ((3, ((0, 1, 3, 3), (1, 2, None, 9))), (0, 3, 5), [(0, 0), (3, 3), (None, 12)]),
        ):
            live = Live(net, times)
            self.assertEqual([live.room(event) for event in range(net[0])], rooms)

    def test_as_point_121_says_it(self):
        for net, times, journal in drawn_lives(278, 60):
            live = replayed(net, times, journal)
            bounds, now = distances(net), live.times()
            for c in range(net[0]):
                others = [e for e in range(net[0]) if e != c]
                low = max((now[e] - bounds[c][e] for e in others if bounds[c][e] is not None), default=None)
                high = min((now[e] + bounds[e][c] for e in others if bounds[e][c] is not None), default=None)
                self.assertEqual(live.room(c), (low, high))
                self.assertTrue((low is None or low <= now[c]) and (high is None or now[c] <= high))

    def test_times_within_and_beyond_a_room_by_one(self):
        beyond = 0
        for net, times, journal in drawn_lives(279, 60):
            live = replayed(net, times, journal)
            now = live.times()
            for event in range(net[0]):
                low, high = live.room(event)
                for time in {now[event], *[side + k for side in (low, high) if side is not None for k in (-1, 0, 1)]}:
                    inside = (low is None or low <= time) and (high is None or time <= high)
                    moved = [other for other, _, _, _ in live.moves((event, time)) if other != event]
                    self.assertIs(moved == [], inside, (net, now, event, time))
                    # Told, it leaves the other events where they are, or does not.
                    other = Live(net, now)
                    other.act(("tell", (event, time)))
                    same = other.times()[:event] + other.times()[event + 1:] == now[:event] + now[event + 1:]
                    self.assertIs(same, inside)
                    beyond += not inside
                # A side of None has no limit, as far as news can tell.
                for side, time in ((low, -500), (high, 500)):
                    if side is None:
                        self.assertTrue(all(move[0] == event for move in live.moves((event, time))))
        self.assertGreater(beyond, 100)

    def test_moves_are_those_of_an_accepted_repair_and_nothing_changes(self):
        numbers = Numbers(280)
        for net, times, journal in drawn_lives(281, 40):
            live = replayed(net, times, journal)
            state = state_of(live)
            for event in range(net[0]):
                news = event, live.times()[event] + numbers.between(-9, 9)
                moves = live.moves(news)
                self.assertIs(type(moves), tuple)
                heights = told_one(net, live.times(), news)
                self.assertIs(accepts_repair(net, live.times(), (news,), (heights, moves)), True)
                self.assertEqual(live.moves(news), moves)
                live.room(event)
            self.assertEqual(state_of(live), state)

    def test_moves_of_news_that_move_nothing(self):
        live = Live(SHORT_NET, TIMES)
        for event, time in enumerate(TIMES):
            self.assertEqual(live.moves((event, time)), ())
        # The row need not have room for another piece of news.
        live = replayed(SHORT_NET, TIMES, (("tell", (0, 7)),) * 8)
        self.assertEqual(live.moves((0, 8)), ((0, 7, 8, ()), (1, 12, 13, ((0, "low"),))))
        self.assertEqual(refused(live.act, ("tell", (0, 8))), (NotPossible, "many"))


class RefusalsTest(unittest.TestCase):
    """Points 2, 8 and 126."""

    def test_commands_of_other_kinds(self):
        live = replayed(SHORT_NET, TIMES, (("tell", (0, 7)),))
        state = state_of(live)
        for command in WRONG_COMMANDS:
            self.assertEqual(refused(live.act, command), (BadValue, "command"), command)
        self.assertEqual(state_of(live), state)

    def test_news_and_events_of_other_kinds(self):
        live = replayed(SHORT_NET, TIMES, (("tell", (0, 7)),))
        state = state_of(live)
        for news in WRONG_NEWS:
            self.assertEqual(refused(live.moves, news), (BadValue, "news"), news)
        for event in WRONG_EVENTS:
            self.assertEqual(refused(live.room, event), (BadValue, "event"), event)
        self.assertEqual(state_of(live), state)

    def test_the_events_have_to_be_those_of_the_net(self):
        live = Live((2, ()), (0, 0))
        for command in (("tell", (2, 0)), ("join", ((2, 0),)), ("join", ((1, 0), (2, 0)))):
            self.assertEqual(refused(live.act, command), (BadValue, "command"))
        self.assertEqual(refused(live.moves, (2, 0)), (BadValue, "news"))
        self.assertEqual(refused(live.room, 2), (BadValue, "event"))

    def test_the_greatest_journal(self):
        for last in (SHORTEN, ("tell", (0, 7)), ("join", ((0, 7), (1, 12)))):
            live = Live(SHORT_NET, TIMES)
            for many in range(1, 20):
                self.assertEqual(live.act(SHORTEN), many)
            self.assertEqual(live.act(last), 20)
            state = state_of(live)
            for command in (SHORTEN, ("join", ()), ("tell", (0, 7)), ("join", ((0, 7), (1, 12)))):
                self.assertEqual(refused(live.act, command), (TooLarge, "commands"), command)
                self.assertEqual(state_of(live), state)
            self.assertEqual(live.undo(), last)
            self.assertEqual(live.act(last), 20)

    def test_bad_values_come_first_and_what_is_not_possible_ahead_of_too_many_commands(self):
        full = replayed(SHORT_NET, TIMES, (("tell", (0, 7)),) * 8 + (("join", ()),) * 12)
        state = state_of(full)
        self.assertEqual(len(full.journal()), 20)
        for command, expected in (
            (("tell", (3, 0)), (BadValue, "command")), (("join", ((0, 7), (0, 7))), (BadValue, "command")),
            (("tell", (0, 7)), (NotPossible, "many")), (("join", ((0, 7), (1, 20))), (NotPossible, "many")),
            (SHORTEN, (TooLarge, "commands")), (("join", ()), (TooLarge, "commands")),
        ):
            self.assertEqual(refused(full.act, command), expected, command)
            self.assertEqual(state_of(full), state)
        other = replayed(SHORT_NET, TIMES, (SHORTEN,) * 20)
        self.assertEqual(refused(other.act, ("join", ((0, 7), (1, 20)))), (NotPossible, "apart"))
        self.assertEqual(refused(other.act, ("join", ((0, 7), (1, 12)))), (TooLarge, "commands"))

    def test_nets_and_times_of_other_kinds(self):
        for net, times, name in (
            ([3, ()], None, "net"), ((7, ()), (0,) * 7, "net"), (NET, (0, 5), "times"), (NET, (0, 4, 4), "times"),
            (NET, [0, 5, 5], "times"), (NET, (0, 5, 1001), "times"), (NET, (True, 5, 5), "times"),
            ((2, ((0, 1, 10, 5),)), (0, 7), "times"), (AnyEqual(), (0,), "net"),
        ):
            self.assertEqual(refused(Live, net, times), (BadValue, name))
        for value in NO_INTEGERS:
            self.assertEqual(refused(Live, (1, ()), (value,)), (BadValue, "times"))
        self.assertEqual(Live((2, ((0, 1, None, -100),)), (1000, -1000)).times(), (1000, -1000))

    def test_what_is_returned_is_not_used_again(self):
        live = replayed(SHORT_NET, TIMES, (("tell", (0, 7)), ("join", ((1, 12),))))
        for value in (live.net(), live.times(), live.row(), live.journal(), live.records(), live.moves((0, 9))):
            self.assertIs(type(value), tuple)
        journal = live.journal()
        live.act(SHORTEN)
        self.assertEqual(len(journal), 2)

    def test_the_same_commands_lead_to_equal_live_nets(self):
        for net, times, journal in drawn_lives(282, 20):
            self.assertEqual(state_of(replayed(net, times, journal)), state_of(replayed(net, times, journal)))
            one = replayed(net, times, journal)
            self.assertEqual(one.records(), one.records())

    def test_joint_news_in_another_sequence_lead_to_the_same_times(self):
        for order in permutations(((0, 9), (1, 14), (2, 14))):
            live = replayed(SHORT_NET, TIMES, (("join", order),))
            self.assertEqual((live.times(), live.row()), ((9, 14, 14), order))


if __name__ == "__main__":
    unittest.main()
