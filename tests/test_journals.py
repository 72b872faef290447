"""Points 119, 122, 123 and 126: replaying journals, records, and the judge of records."""

import unittest
from itertools import product

from allbide.alike import are_alike, shortest
from allbide.errors import BadValue, NotPossible
from allbide.journals import are_right, replayed
from allbide.live import Live
from allbide.nets import is_walk, walk_length
from allbide.repair import accepts_repair, repair
from tests.lives import SHORTEN, TIMES, drawn_lives, state_of
from tests.oracles import are_told_apart, told_jointly
from tests.samples import NET, NO_INTEGERS, SHORT_NET, WRONG_COMMANDS, WRONG_JOURNALS, AnyEqual, refused

# Three kinds of commands, in the first, the middle and the last place.
JOURNAL = (
    ("tell", (0, 7)), ("join", ((2, 30), (1, 14))), ("tell", (0, 9)), ("tell", (0, 7)), SHORTEN, ("join", ()),
    ("tell", (1, 40)),
)
RECORDS = replayed(SHORT_NET, TIMES, JOURNAL).records()


def judged(records):
    return are_right(SHORT_NET, TIMES, records)


def changed(records, k, record):
    """The records with this one in the place k."""
    return records[:k] + (record,) + records[k + 1:]


def end_of(net, times, records):
    """The times and the row behind right records."""
    row = ()
    for command, value in records:
        if command == SHORTEN:
            row = value
        else:
            times = value[0]
            row += (command[1],) if command[0] == "tell" else command[1]
    return times, row


class ReplayedTest(unittest.TestCase):
    """Points 119 and 126."""

    def test_the_example_of_point_127(self):
        journal = (("tell", (0, 7)), ("tell", (0, 9)), ("tell", (0, 7)))
        live = replayed(SHORT_NET, TIMES, journal)
        self.assertIs(type(live), Live)
        self.assertEqual((live.net(), live.times(), live.row()), (SHORT_NET, (7, 14, 30), ((0, 7), (0, 9), (0, 7))))
        self.assertEqual(live.journal(), journal)

    def test_an_empty_journal_and_one_of_20_commands(self):
        self.assertEqual(state_of(replayed(SHORT_NET, TIMES, ())), (SHORT_NET, TIMES, (), (), ()))
        live = replayed(SHORT_NET, TIMES, (SHORTEN,) * 20)
        self.assertEqual(live.journal(), (SHORTEN,) * 20)

    def test_the_order_of_the_refusals(self):
        for net, times, journal, expected in (
            ([3, ()], None, None, (BadValue, "net")), (SHORT_NET, (0, 4, 4), None, (BadValue, "times")),
            (SHORT_NET, TIMES, None, (BadValue, "journal")), (SHORT_NET, TIMES, (SHORTEN,) * 21, (BadValue, "journal")),
            (SHORT_NET, TIMES, (("tell", (0, 7)),) * 9, (NotPossible, "many")),
            (SHORT_NET, TIMES, (("tell", (0, 7)),) * 9 + (("tell", (3, 7)),), (BadValue, "journal")),
            (SHORT_NET, TIMES, (("join", ((0, 7), (1, 20))),), (NotPossible, "apart")),
            (SHORT_NET, TIMES, (("join", ((0, 7), (1, 20))), ("join", ((0, 7), (0, 7)))), (BadValue, "journal")),
            (SHORT_NET, TIMES, (("tell", (0, 7)),) * 7 + (("join", ((0, 7), (1, 20))),), (NotPossible, "many")),
            (SHORT_NET, TIMES, (SHORTEN,) * 19 + (("join", ((0, 7), (1, 20))),), (NotPossible, "apart")),
            ((2, ()), (0, 0), (("tell", (2, 7)),), (BadValue, "journal")),
        ):
            self.assertEqual(refused(replayed, net, times, journal), expected, (net, times, journal))

    def test_journals_of_other_kinds(self):
        for journal in WRONG_JOURNALS:
            self.assertEqual(refused(replayed, SHORT_NET, TIMES, journal), (BadValue, "journal"), journal)


class RecordsTest(unittest.TestCase):
    """Point 123."""

    def test_by_hand(self):
        live = replayed(SHORT_NET, TIMES, (("tell", (0, 7)), ("tell", (0, 9)), ("tell", (0, 7)), SHORTEN, ("join", ())))
        self.assertEqual(live.records(), (
            (("tell", (0, 7)), ((7, 12, 30), ((0, 0, 7, ()), (1, 5, 12, ((0, "low"),))))),
            (("tell", (0, 9)), ((9, 14, 30), ((0, 7, 9, ()), (1, 12, 14, ((0, "low"),))))),
            (("tell", (0, 7)), ((7, 14, 30), ((0, 9, 7, ()),))),
            (SHORTEN, ((0, 9), (0, 7))),
            (("join", ()), ((7, 14, 30), ())),
        ))

    def test_each_command_with_a_repair_or_with_the_row_behind_it(self):
        for net, times, journal in drawn_lives(290, 50):
            records = replayed(net, times, journal).records()
            self.assertEqual(tuple(command for command, _ in records), journal)
            before, row = times, ()
            for command, value in records:
                if command == SHORTEN:
                    row = shortest(row)
                    self.assertEqual(value, row)
                else:
                    news = (command[1],) if command[0] == "tell" else command[1]
                    self.assertEqual(value, repair(net, before, news))
                    self.assertIs(accepts_repair(net, before, news, value), True)
                    before, row = told_jointly(net, before, news), row + news

    def test_they_are_right(self):
        for net, times, journal in drawn_lives(291, 60):
            live = Live(net, times)
            self.assertIs(are_right(net, times, live.records()), True)
            for command in journal:
                live.act(command)
                self.assertIs(are_right(net, times, live.records()), True)
            self.assertEqual(end_of(net, times, live.records()), (live.times(), live.row()))
            live.undo()
            self.assertIs(are_right(net, times, live.records()), True)


class RightTest(unittest.TestCase):
    """Point 122: records that are right, whoever wrote them, and records that are not."""

    def test_the_records_that_the_tests_change(self):
        self.assertIs(judged(RECORDS), True)
        self.assertIs(judged(()), True)
        for k in range(len(RECORDS)):
            self.assertIs(judged(RECORDS[:k]), True)

    def test_a_command_changed(self):
        for k, (command, value) in enumerate(RECORDS):
            for other in (
                ("tell", (0, 8)), ("tell", (1, 12)), ("tell", (2, 29)), ("join", ((0, 8),)), ("join", ((1, 7),)),
                ("join", ((2, 30), (1, 15))), ("join", ((2, 31), (1, 14), (0, 7))), ("join", ((0, 7), (1, 20))),
            ):
                self.assertIs(judged(changed(RECORDS, k, (other, value))), False, (k, other))
            if command != SHORTEN:
                self.assertIs(judged(changed(RECORDS, k, (SHORTEN, value))), False)
            for other in WRONG_COMMANDS:
                self.assertIs(judged(changed(RECORDS, k, (other, value))), False, (k, other))

    def test_a_command_changed_so_that_the_repair_is_accepted_still(self):
        # Joint news of one piece are told like this piece alone; the row is the same then.
        for k in (0, 2, 3, 6):
            (_, news), value = RECORDS[k]
            self.assertIs(judged(changed(RECORDS, k, (("join", (news,)), value))), True)
        self.assertIs(judged(changed(RECORDS, 1, (("join", ((1, 14), (2, 30))), RECORDS[1][1]))), False)
        self.assertIs(judged(changed(RECORDS[:4], 1, (("join", ((1, 14), (2, 30))), RECORDS[1][1]))), True)

    def test_a_repair_changed(self):
        for k in (0, 1, 2, 3, 5, 6):
            command, (heights, moves) = RECORDS[k]
            wrong = [
                (heights, moves + ((2, 30, 31, ()),)), (heights, moves + ((0, 0, 0, ()),)), (heights,),
                (moves, heights), (heights, moves, ()), [heights, moves], (heights, list(moves)),
                (list(heights), moves), heights, moves,
                None, True, 0, "", (), AnyEqual(), (AnyEqual(), moves), (heights, AnyEqual()), (None, moves),
            ]
            for event, more in product(range(3), (-1, 1)):
                other = list(heights)
                other[event] += more
                wrong.append((tuple(other), moves))
            for j, (event, old, new, walk) in enumerate(moves):
                for move in (
                    (event, old + 1, new, walk), (event, old, new + 1, walk), (event, old, new, None),
                    (event, old, new, walk + ((0, "high"),)), (event, old, new), ((event + 1) % 3, old, new, walk),
                    (event, new, old, walk), [event, old, new, walk], AnyEqual(), None,
                ):
                    wrong.append((heights, moves[:j] + (move,) + moves[j + 1:]))
                wrong.append((heights, moves[:j] + moves[j + 1:]))
            for value in wrong:
                self.assertIs(judged(changed(RECORDS, k, (command, value))), False, (k, value))
        # With right heights that have the time of the news, but move another event further than it must.
        first = (("tell", (0, 7)), ((7, 13, 30), ((0, 0, 7, ()), (1, 5, 13, ((0, "low"),)))))
        self.assertIs(judged((first,)), False)

    def test_another_accepted_repair(self):
        net = (3, ((0, 1, 5, None), (0, 1, 5, 10), (1, 2, 0, None), (0, 2, 5, None)))
        live = replayed(net, (0, 5, 5), (("tell", (0, 7)), SHORTEN, ("tell", (2, 5))))
        records = live.records()
        self.assertIs(are_right(net, (0, 5, 5), records), True)
        seen = 0
        for walk, other in product((((0, "low"),), ((1, "low"),)), (((2, "low"), (0, "low")), ((3, "low"),))):
            moves = ((0, 0, 7, ()), (1, 5, 12, walk), (2, 5, 12, other))
            value = (7, 12, 12), moves
            found = changed(records, 0, (records[0][0], value))
            self.assertEqual(is_walk(net, 2, 0, other) and walk_length(net, other), -5)
            self.assertIs(are_right(net, (0, 5, 5), found), True, value)
            self.assertEqual(end_of(net, (0, 5, 5), found), (live.times(), live.row()))
            seen += found != records
        self.assertEqual(seen, 3)

    def test_another_row_that_is_alike_and_not_longer(self):
        journal = tuple(("tell", (0, time)) for time in (7, 8, 9)) + (SHORTEN, ("tell", (0, 9)))
        records = replayed(SHORT_NET, TIMES, journal).records()
        self.assertEqual(records[3], (SHORTEN, ((0, 7), (0, 9))))
        for row, right in (
            (((0, 7), (0, 9)), True), (((0, 7), (0, 8), (0, 9)), True), (((0, 7), (0, 7), (0, 9)), True),
            (((0, 7), (0, 9), (0, 9)), True), (((0, 7), (0, 7), (0, 8), (0, 9)), False), (((0, 7), (0, 8)), False),
            (((0, 7), (0, 9), (0, 9), (0, 9)), False), (((0, 9),), False), (((0, 9), (0, 7)), False), ((), False),
            (((0, 7), (1, 9)), False), (((1, 7), (1, 9)), False), (((0, 8), (0, 9), (0, 7)), False),
            (((0, 8), (0, 7), (0, 9)), True),
        ):
            found = changed(records, 3, (SHORTEN, row))
            self.assertIs(are_right(SHORT_NET, TIMES, found), right, row)
            self.assertIs(right, len(row) <= 3 and not are_told_apart(row, ((0, 7), (0, 8), (0, 9))))
            if right:
                self.assertEqual(end_of(SHORT_NET, TIMES, found)[0], replayed(SHORT_NET, TIMES, journal).times())
        for row in (
            None, True, 0, "", [], [(0, 7), (0, 9)], ([0, 7], (0, 9)), ((0, 7), (0, 9, 9)), ((0, 7), (0, True)),
            ((0, 7), (3, 9)), ((0, 7), (False, 9)), ((0, 7), (0, 501)), {}, AnyEqual(), (AnyEqual(), (0, 9)),
            ((0, 7), AnyEqual()), ((0, 7), None), ((0, 7), (0, 9.0)), ((0, 7), (0, 9), None), (0, 7), ((0, 7),) * 9,
        ):
            self.assertIs(are_right(SHORT_NET, TIMES, changed(records, 3, (SHORTEN, row))), False, row)

    def test_the_row_of_a_record_counts_for_the_ones_behind_it(self):
        # The row was not shortened as far as it could be, so that there is less room behind it.
        told = tuple((("tell", (0, 7)), value) for value in (
            ((7, 12, 30), ((0, 0, 7, ()), (1, 5, 12, ((0, "low"),)))), *[((7, 12, 30), ())] * 7,
        ))
        nothing = ((7, 12, 30), ())
        self.assertIs(judged(told), True)
        self.assertIs(judged(told + (told[7],)), False)
        for many in range(10):
            kept = told + ((SHORTEN, ((0, 7),) * many),)
            self.assertIs(judged(kept), 1 <= many <= 8, many)
            for more in range(9) if 1 <= many <= 8 else ():
                self.assertIs(judged(kept + (told[7],) * more), many + more <= 8)
            joint = ("join", ((0, 7), (1, 12)))
            self.assertIs(judged(kept + ((joint, nothing),)), 1 <= many <= 6)
            self.assertIs(judged(kept + ((("join", ()), nothing),)), 1 <= many <= 8)
        # A row that is not longer than the one told last, but than the one before.
        short = told[:3] + ((SHORTEN, ((0, 7),)), (SHORTEN, ((0, 7), (0, 7))))
        self.assertIs(judged(short[:4]), True)
        self.assertIs(judged(short), False)

    def test_a_record_left_out_or_put_in(self):
        for k in range(len(RECORDS)):
            without = RECORDS[:k] + RECORDS[k + 1:]
            # Without the last one, or one that tells nothing, they are right still; without shortening, there is room.
            self.assertIs(judged(without), k in (4, 5, 6), k)
            again = RECORDS[:k] + (RECORDS[k],) + RECORDS[k:]
            # Only what moves nothing can stand twice.
            self.assertIs(judged(again), RECORDS[k][0] in (SHORTEN, ("join", ())), k)
        for k in range(len(RECORDS) + 1):
            other = (("tell", (2, 31)), ((0, 5, 31), ((2, 30, 31, ()),)))
            self.assertIs(judged(RECORDS[:k] + (other,) + RECORDS[k:]), False, k)
        self.assertIs(judged(RECORDS[::-1]), False)
        self.assertIs(judged(RECORDS[1:2] + RECORDS[:1] + RECORDS[2:]), False)
        self.assertIs(judged(RECORDS[:5] + RECORDS[6:] + RECORDS[5:6]), False)

    def test_a_form_changed(self):
        for k, (command, value) in enumerate(RECORDS):
            for record in (
                None, True, 0, "", "ab", (), (command,), (command, value, ()), [command, value], (value, command),
                {command: value}, AnyEqual(), command, (AnyEqual(), value), (command, AnyEqual()), (None, value),
                (command, None), (list(command), value),
            ):
                self.assertIs(judged(changed(RECORDS, k, record)), False, (k, record))
        for records in (
            None, True, 0, "", "ab", [], list(RECORDS), {}, AnyEqual(), (RECORDS,), RECORDS[0], RECORDS + (None,),
            RECORDS + ((),), *NO_INTEGERS,
        ):
            self.assertIs(judged(records), False, records)

    def test_20_and_21_records(self):
        nothing = (("join", ()), (TIMES, ()))
        for record in (nothing, (SHORTEN, ())):
            self.assertIs(judged((record,) * 20), True)
            self.assertIs(judged((record,) * 21), False)
            self.assertIs(judged((record,) * 12 + RECORDS), True)
            self.assertIs(judged((record,) * 13 + RECORDS), True)
            self.assertIs(judged((record,) * 14 + RECORDS), False)

    def test_more_news_than_a_row_can_have(self):
        live = replayed(SHORT_NET, TIMES, (("tell", (0, 7)),) * 8)
        records = live.records()
        self.assertEqual(len(records), 8)
        for command in (("tell", (0, 7)), ("join", ((0, 7),))):
            self.assertIs(judged(records + ((command, (live.times(), ())),)), False)
            self.assertIs(judged(records[:7] + ((command, (live.times(), ())),)), True)
        joint = (("join", ((0, 7), (1, 12))), (live.times(), ()))
        self.assertIs(judged(records[:6] + (joint,)), True)
        self.assertIs(judged(records[:7] + (joint,)), False)

    def test_news_that_are_apart(self):
        for heights in ((7, 20, 30), (7, 17, 30), (10, 20, 30)):
            value = heights, ((0, 0, heights[0], ()), (1, 5, heights[1], ()))
            self.assertIs(judged(((("join", ((0, 7), (1, 20))), value),)), False)

    def test_records_of_another_net_or_of_other_times(self):
        for net, times in ((SHORT_NET, (0, 5, 31)), (SHORT_NET, (0, 6, 30)), (NET, (0, 5, 6)), ((3, ()), TIMES)):
            self.assertIs(are_right(net, times, RECORDS), False)
        self.assertIs(are_right((2, ()), (0, 0), ((("tell", (2, 0)), ((0, 0), ())),)), False)

    def test_right_records_end_with_the_times_of_the_replayed_live_net(self):
        compared = 0
        for net, times, journal in drawn_lives(292, 60):
            records, row, before = [], (), times
            for command in journal:
                if command == SHORTEN:
                    # Not shortened at all, or with one piece left out of those that can be.
                    rows = [row] + [row[:k] + row[k + 1:] for k in range(len(row))]
                    row = [other for other in rows if are_alike(other, row)][-1]
                    records.append((command, row))
                else:
                    news = (command[1],) if command[0] == "tell" else command[1]
                    if len(row) + len(news) > 8:
                        break
                    value = repair(net, before, news)
                    records.append((command, value))
                    before, row = value[0], row + news
            self.assertIs(are_right(net, times, tuple(records)), True)
            live = replayed(net, times, journal[:len(records)])
            self.assertEqual(live.times(), before)
            self.assertEqual(end_of(net, times, records), (before, row))
            compared += live.row() != row
        self.assertGreater(compared, 5)

    def test_refusals_and_nothing_is_changed(self):
        for net, times, name in (
            ([3, ()], None, "net"), (SHORT_NET, (0, 4, 4), "times"), (SHORT_NET, None, "times"), (None, TIMES, "net"),
        ):
            for records in (RECORDS, None, ()):
                self.assertEqual(refused(are_right, net, times, records), (BadValue, name))
        wrong = [list(record) for record in RECORDS]
        before = [list(record) for record in RECORDS]
        self.assertIs(judged(wrong), False)
        self.assertEqual(wrong, before)


if __name__ == "__main__":
    unittest.main()
