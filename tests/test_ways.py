"""Points 86 to 95: sets of events that lead, carrying, sources, the way, and the evidence for ways."""

import unittest
from itertools import permutations, product

from allbide.bounds import shows_kept
from allbide.changes import renamed
from allbide.errors import BadValue
from allbide.repair import accepts_repair, repaired
from allbide.ways import accepts_way, carries, leads, sources, way, way_evidence
from tests.oracles import all_sets, does_carry, is_right, leading_sets, right_heights, sources_by_words, told_all
from tests.samples import (
    NET, NO_INTEGERS, SHORT_NET, WRONG_CHOICES, WRONG_SETS, WRONG_TIMES, WRONG_WALKS, AnyEqual, Numbers, kept_pairs,
    later, negative, sample_nets, some_rows,
)

# A net in which an event is carried from two sides, and one that has two events at a fixed distance.
FORK = (4, ((0, 1, 2, None), (0, 2, 3, None), (1, 3, 1, None), (2, 3, 1, None)))
FIXED = (4, ((0, 1, 5, 5), (2, 3, None, 4)))


def negated(times):
    return tuple(-time for time in times)


def told_ends(seed, many, sizes=(1, 2, 3, 4, 5, 6)):
    """Nets with two times that keep them; the second ones come when news are told to the first ones."""
    numbers = Numbers(seed)
    found = []
    for k, (net, times) in enumerate(kept_pairs(seed, many, sizes)):
        for row in some_rows(seed + k, 4, net[0], most=4, far=22):
            second = told_all(net, times, row)
            found.append((net, times, second) if numbers.below(2) else (net, second, times))
    return found


def small_ends():
    """Small nets with two times that keep them, of all that are near to 0."""
    numbers = Numbers(210)
    found = []
    for net in sample_nets()[::5]:
        near = right_heights(net, -3, 3) if net[0] < 4 else []
        for _ in range(4 if near else 0):
            found.append((net, numbers.choice(near), numbers.choice(near)))
    return found


ENDS = told_ends(211, 60) + small_ends()


class LeadsTest(unittest.TestCase):
    """Points 86, 88, 92 and 95."""

    def test_the_example_of_point_95(self):
        first, second = (0, 5, 5), (7, 12, 12)
        self.assertEqual(way(NET, first, second), ((0, 7),))
        self.assertIs(carries(NET, first, second, 0, 1), True)
        self.assertIs(carries(NET, first, second, 0, 2), True)
        self.assertEqual(way(NET, second, first), ((2, 5),))
        self.assertIs(carries(NET, second, first, 2, 1), True)
        self.assertIs(carries(NET, second, first, 2, 0), True)

    def test_sets_worked_out_by_hand(self):
        for net, first, second, leading in (
            (NET, (0, 5, 5), (7, 12, 12), ((0,), (0, 1), (0, 2), (0, 1, 2))),
            (NET, (7, 12, 12), (0, 5, 5), ((2,), (0, 2), (1, 2), (0, 1, 2))),
            (NET, (0, 5, 5), (0, 5, 5), all_sets(3)),
            (NET, (0, 5, 5), (0, 5, 6), ((2,), (0, 2), (1, 2), (0, 1, 2))),
            (NET, (0, 5, 5), (7, 13, 13), ((0, 1), (0, 1, 2))),
            (NET, (0, 5, 5), (7, 12, 13), ((0, 2), (0, 1, 2))),
            ((3, ()), (0, 0, 0), (1, 0, -1), ((0, 2), (0, 1, 2))),
            ((1, ()), (-500,), (500,), ((0,),)),
            (FIXED, (0, 5, 0, 0), (9, 14, 0, 0), (
                (0,), (1,), (0, 1), (0, 2), (0, 3), (1, 2), (1, 3), (0, 1, 2), (0, 1, 3), (0, 2, 3), (1, 2, 3),
                (0, 1, 2, 3),
            )),
        ):
            for chosen in all_sets(net[0]):
                self.assertIs(leads(net, first, second, chosen), chosen in leading, (net, first, second, chosen))

    def test_all_sets_of_small_nets(self):
        answers = []
        for net, first, second in ENDS:
            leading = leading_sets(net, first, second)
            for chosen in all_sets(net[0]):
                answers.append(leads(net, first, second, chosen))
                self.assertIs(answers[-1], chosen in leading, (net, first, second, chosen))
        self.assertGreater(min(answers.count(True), answers.count(False)), 1000)

    def test_a_set_leads_if_the_news_told_together_take_the_first_times_to_the_second(self):
        for net, first, second in ENDS[::3]:
            for chosen in all_sets(net[0]):
                row = tuple((event, second[event]) for event in chosen)
                self.assertIs(leads(net, first, second, chosen), repaired(net, first, row) == second)

    def test_all_events_and_those_that_move_lead(self):
        for net, first, second in ENDS:
            everyone = tuple(range(net[0]))
            self.assertIs(leads(net, first, second, everyone), True)
            moving = tuple(event for event in everyone if first[event] != second[event])
            self.assertIs(leads(net, first, second, moving), True)

    def test_each_event_that_moves_is_in_the_set_or_carried_by_one_of_it(self):
        for net, first, second in ENDS:
            moving = [event for event in range(net[0]) if first[event] != second[event]]
            carrying = {
                (e, c) for e, c in product(range(net[0]), repeat=2) if carries(net, first, second, e, c)
            }
            for chosen in all_sets(net[0]):
                right = all(c in chosen or any((e, c) in carrying for e in chosen) for c in moving)
                self.assertIs(leads(net, first, second, chosen), right)

    def test_a_set_that_leads_does_so_with_a_further_event(self):
        for net, first, second in ENDS:
            for chosen in all_sets(net[0]):
                if leads(net, first, second, chosen):
                    for event in range(net[0]):
                        further = tuple(sorted({*chosen, event}))
                        self.assertIs(leads(net, first, second, further), True)

    def test_the_empty_set_leads_exactly_if_both_times_are_equal(self):
        for net, first, second in ENDS:
            self.assertIs(leads(net, first, second, ()), first == second)
            self.assertIs(leads(net, first, first, ()), True)


class CarriesTest(unittest.TestCase):
    """Point 87."""

    def test_worked_out_by_hand(self):
        for net, first, second, carrying in (
            (NET, (0, 5, 5), (7, 12, 12), {(0, 1), (0, 2), (1, 2)}),
            (NET, (7, 12, 12), (0, 5, 5), {(2, 1), (2, 0), (1, 0)}),
            (NET, (0, 5, 5), (7, 13, 13), {(1, 2)}),
            (NET, (0, 10, 10), (7, 17, 17), {(1, 0), (1, 2)}),
            # An event that does not move is not carried, and does not carry.
            (NET, (0, 5, 12), (7, 12, 12), {(0, 1)}),
            (FIXED, (0, 5, 0, 0), (9, 14, 0, 4), {(0, 1), (1, 0)}),
            (FIXED, (0, 5, 0, 0), (0, 5, 1, 5), {(3, 2)}),
            (FIXED, (0, 5, 1, 5), (0, 5, 0, 4), {(2, 3)}),
            ((2, ()), (0, 0), (5, 5), set()), ((1, ()), (0,), (5,), set()),
        ):
            for e, c in product(range(net[0]), repeat=2):
                self.assertIs(carries(net, first, second, e, c), (e, c) in carrying, (net, first, second, e, c))

    def test_as_point_87_says_it(self):
        answers = []
        for net, first, second in ENDS:
            for e, c in product(range(net[0]), repeat=2):
                answers.append(carries(net, first, second, e, c))
                self.assertIs(answers[-1], does_carry(net, first, second, e, c), (net, first, second, e, c))
        self.assertGreater(min(answers.count(True), answers.count(False)), 200)

    def test_the_same_event_and_events_that_do_not_move(self):
        for net, first, second in ENDS:
            for e in range(net[0]):
                self.assertIs(carries(net, first, second, e, e), False)
                for c in range(net[0]):
                    self.assertIs(carries(net, first, first, e, c), False)

    def test_only_events_that_move_in_the_same_direction_carry_and_carrying_goes_on(self):
        for net, first, second in ENDS:
            carrying = {
                (e, c) for e, c in product(range(net[0]), repeat=2) if carries(net, first, second, e, c)
            }
            for e, c in carrying:
                self.assertGreater((second[e] - first[e]) * (second[c] - first[c]), 0)
                for other, b in carrying:
                    if other == c and b != e:
                        self.assertIn((e, b), carrying)


class SourcesTest(unittest.TestCase):
    """Points 89 and 92."""

    def test_worked_out_by_hand(self):
        for net, first, second, expected in (
            (NET, (0, 5, 5), (7, 12, 12), [(0,)]), (NET, (7, 12, 12), (0, 5, 5), [(2,)]),
            (NET, (0, 5, 5), (7, 13, 13), [(0,), (1,)]), (NET, (0, 5, 5), (0, 5, 5), []),
            (FIXED, (0, 5, 0, 0), (9, 14, 0, 0), [(0, 1)]), (FIXED, (0, 5, 0, 0), (9, 14, 1, 5), [(0, 1), (3,)]),
            (FIXED, (0, 5, 1, 5), (-9, -4, 0, 4), [(0, 1), (2,)]),
            (FORK, (0, 2, 3, 4), (5, 7, 8, 9), [(0,)]), (FORK, (5, 7, 8, 9), (0, 2, 3, 4), [(1,), (3,)]),
            (FORK, (0, 2, 3, 4), (0, 8, 8, 9), [(1,), (2,)]), (FORK, (0, 9, 9, 10), (0, 2, 3, 4), [(1,), (3,)]),
            ((6, ()), (0,) * 6, (1, 0, 2, 0, 3, -1), [(0,), (2,), (4,), (5,)]),
            ((3, ((0, 2, 4, 4),)), (0, 0, 4), (1, 1, 5), [(0, 2), (1,)]),
        ):
            found = sources(net, first, second)
            self.assertEqual(found, expected, (net, first, second))
            self.assertIs(type(found), list)
            self.assertTrue(all(type(source) is tuple for source in found))
            row = tuple((source[0], second[source[0]]) for source in expected)
            self.assertEqual(way(net, first, second), row)

    def test_as_point_89_says_it(self):
        many = []
        for net, first, second in ENDS:
            found = sources(net, first, second)
            self.assertEqual(found, sources_by_words(net, first, second), (net, first, second))
            many.extend(found)
        self.assertTrue(any(len(source) > 1 for source in many))

    def test_a_set_leads_if_it_has_an_event_of_each_source(self):
        for net, first, second in ENDS:
            found = sources(net, first, second)
            for chosen in all_sets(net[0]):
                right = all(any(event in chosen for event in source) for source in found)
                self.assertIs(leads(net, first, second, chosen), right)

    def test_the_returned_list_is_a_new_one(self):
        found = sources(NET, (0, 5, 5), (7, 12, 12))
        found.append((1,))
        self.assertEqual(sources(NET, (0, 5, 5), (7, 12, 12)), [(0,)])


class WayTest(unittest.TestCase):
    """Points 89, 92 and 93."""

    def test_no_set_with_fewer_events_leads_and_none_with_as_many_comes_before_it(self):
        for net, first, second in ENDS:
            row = way(net, first, second)
            least = leading_sets(net, first, second)[0]
            self.assertEqual(row, tuple((event, second[event]) for event in least), (net, first, second))
            self.assertIs(leads(net, first, second, least), True)
            self.assertEqual(repaired(net, first, row), second)

    def test_it_is_empty_exactly_if_both_times_are_equal(self):
        for net, first, second in ENDS:
            self.assertIs(way(net, first, second) == (), first == second)
            self.assertEqual(way(net, first, first), ())

    def test_the_way_back(self):
        # One piece of news raises all, and to lower them again each of the three others has to be told.
        net = (4, ((0, 1, 0, None), (0, 2, 0, None), (0, 3, 0, None)))
        self.assertEqual(way(net, (0, 0, 0, 0), (9, 9, 9, 9)), ((0, 9),))
        self.assertEqual(way(net, (9, 9, 9, 9), (0, 0, 0, 0)), ((1, 0), (2, 0), (3, 0)))
        self.assertEqual(way(net, (0, 1, 2, 3), (9, 9, 9, 9)), ((0, 9),))
        self.assertEqual(way(net, (9, 9, 9, 9), (0, 1, 2, 3)), ((0, 0), (1, 1), (2, 2), (3, 3)))
        longer = 0
        for net, first, second in ENDS:
            there, back = way(net, first, second), way(net, second, first)
            self.assertEqual(repaired(net, second, back), first)
            longer += len(there) != len(back)
        self.assertGreater(longer, 20)

    def test_point_93_put_later_and_negated(self):
        for net, first, second in ENDS[::2]:
            found = sources(net, first, second)
            row = way(net, first, second)
            for many in (-400, 3, 250):
                one, other = (tuple(time + many for time in times) for times in (first, second))
                self.assertEqual(sources(net, one, other), found)
                self.assertEqual(way(net, one, other), later(row, many))
                for chosen in all_sets(net[0])[::3]:
                    self.assertIs(leads(net, one, other, chosen), leads(net, first, second, chosen))
            one, other = negated(first), negated(second)
            self.assertEqual(sources(negative(net), one, other), found)
            self.assertEqual(way(negative(net), one, other), tuple((event, -time) for event, time in row))
            for chosen in all_sets(net[0]):
                self.assertIs(leads(negative(net), one, other, chosen), leads(net, first, second, chosen))

    def test_events_renamed(self):
        for net, first, second in ENDS:
            if net[0] > 3:
                continue
            for order in permutations(range(net[0])):
                one, other = [0] * net[0], [0] * net[0]
                for event in range(net[0]):
                    one[order[event]], other[order[event]] = first[event], second[event]
                one, other = tuple(one), tuple(other)
                expected = sorted(tuple(sorted(order[e] for e in s)) for s in sources(net, first, second))
                self.assertEqual(sources(renamed(net, order), one, other), expected)
                for chosen in all_sets(net[0]):
                    also = tuple(sorted(order[event] for event in chosen))
                    self.assertIs(leads(renamed(net, order), one, other, also), leads(net, first, second, chosen))


class EvidenceTest(unittest.TestCase):
    """Points 90 and 91."""

    FIRST = (0, 2, 3, 4)
    SECOND = (0, 8, 8, 9)
    ROW = ((1, 8), (2, 8))

    def test_the_told_evidence_is_accepted_for_the_way(self):
        for net, first, second in ENDS:
            row, value = way(net, first, second), way_evidence(net, first, second)
            self.assertIs(accepts_way(net, first, second, row, value), True, (net, first, second))
            moves, holds = value
            self.assertIs(accepts_repair(net, first, row, (second, moves)), True)
            self.assertEqual(len(holds), len(row))
            for (event, time), (chosen, heights) in zip(row, holds):
                self.assertIn(event, chosen)
                self.assertIs(shows_kept(net, heights), True)
                self.assertTrue(all(heights[c] == second[c] for c in range(net[0]) if c not in chosen))
                self.assertTrue(heights[event] < time if first[event] < time else heights[event] > time)

    def test_every_set_that_leads_has_an_event_of_each_hold(self):
        for net, first, second in ENDS:
            holds = way_evidence(net, first, second)[1]
            for chosen in leading_sets(net, first, second):
                for held, _ in holds:
                    self.assertTrue(any(event in chosen for event in held))

    def test_the_evidence_for_equal_times(self):
        self.assertEqual(way_evidence(NET, (0, 5, 5), (0, 5, 5)), ((), ()))
        self.assertIs(accepts_way(NET, (0, 5, 5), (0, 5, 5), (), ((), ())), True)
        for value in (((), ((), ())), ((), (((0,), (0, 5, 5)),)), (((0, 0, 0, ()),), ()), ((),), ()):
            self.assertIs(accepts_way(NET, (0, 5, 5), (0, 5, 5), (), value), False)
        # A piece of news that moves nothing has no hold.
        for hold in (((0,), (0, 5, 5)), ((0,), (-1, 5, 5)), ((0, 1, 2), (-1, 4, 4)), ((0, 1, 2), (1, 6, 6))):
            self.assertIs(accepts_way(NET, (0, 5, 5), (0, 5, 5), ((0, 0),), ((), (hold,))), False)

    MOVES = ((1, 2, 8, ()), (2, 3, 8, ()), (3, 4, 9, ((2, "low"),)))
    HOLDS = (((1,), (0, 7, 8, 9)), ((2,), (0, 8, 7, 9)))

    def judged(self, moves=MOVES, holds=HOLDS, row=ROW):
        return accepts_way(FORK, self.FIRST, self.SECOND, row, (moves, holds))

    def test_evidence_that_is_accepted_whoever_wrote_it(self):
        self.assertIs(self.judged(), True)
        # The other walk, greater sets, and other heights; the news in another sequence, with the holds in it, too.
        self.assertIs(self.judged(moves=self.MOVES[:2] + ((3, 4, 9, ((3, "low"),)),)), True)
        for holds in (
            (((1,), (0, 2, 8, 9)), ((2,), (0, 8, 3, 9))), (((1,), (0, 2, 8, 9)), ((2, 3), (0, 8, 3, 9))),
            (((0, 1), (-9, -7, 8, 9)), ((2, 3), (0, 8, 3, 900))), (((1, 3), (0, 7, 8, 9)), ((2,), (0, 8, 7, 9))),
            (((0, 1), (0, 7, 8, 9)), ((2, 3), (0, 8, 7, 9))), (((0, 1, 3), (-1, 7, 8, 9)), ((2,), (0, 8, 7, 9))),
        ):
            self.assertIs(self.judged(holds=holds), True, holds)
        self.assertIs(self.judged(row=self.ROW[::-1], holds=self.HOLDS[::-1]), True)
        self.assertIs(self.judged(row=self.ROW[::-1]), False)
        # Not the way, but as short.
        first, second = (0, 5, 0, 0), (9, 14, 0, 0)
        self.assertEqual(way(FIXED, first, second), ((0, 9),))
        value = (((0, 0, 9, ((0, "high"),)), (1, 5, 14, ())), (((0, 1), (8, 13, 0, 0)),))
        self.assertIs(accepts_way(FIXED, first, second, ((1, 14),), value), True)

    def test_moves_changed_left_out_or_put_in(self):
        for k, (event, old, new, walk) in enumerate(self.MOVES):
            for move in (
                (event + 1, old, new, walk), (event - 1, old, new, walk), (event, old + 1, new, walk),
                (event, old - 1, new, walk), (event, old, new + 1, walk), (event, old, new - 1, walk),
                (event, new, old, walk), (event, old, new), (event, old, new, walk, ()), [event, old, new, walk],
                (event, old, new, None), (event, old, new, walk + ((0, "high"),)), (event, old, new, list(walk)),
                (event, old, new, ((0, "low"),)), None, (), AnyEqual(),
            ):
                self.assertIs(self.judged(moves=self.MOVES[:k] + (move,) + self.MOVES[k + 1:]), False, move)
            for value in NO_INTEGERS:
                for move in ((value, old, new, walk), (event, value, new, walk), (event, old, value, walk)):
                    self.assertIs(self.judged(moves=self.MOVES[:k] + (move,) + self.MOVES[k + 1:]), False, move)
            self.assertIs(self.judged(moves=self.MOVES[:k] + self.MOVES[k + 1:]), False)
            self.assertIs(self.judged(moves=self.MOVES[:k] + self.MOVES[k:k + 1] + self.MOVES[k:]), False)
        self.assertIs(self.judged(moves=((0, 0, 0, ()),) + self.MOVES), False)
        self.assertIs(self.judged(moves=self.MOVES[::-1]), False)
        self.assertIs(self.judged(moves=()), False)

    def test_walks_changed(self):
        for walk in (
            (), ((3, "low"), (1, "low")), ((2, "low"), (0, "low")), ((2, "high"),), ((1, "low"),), ((2, "low"),) * 2,
            [(2, "low")], None, AnyEqual(), *WRONG_WALKS,
        ):
            self.assertIs(self.judged(moves=self.MOVES[:2] + ((3, 4, 9, walk),)), False, walk)

    def test_holds_changed_left_out_or_put_in(self):
        for k, (chosen, heights) in enumerate(self.HOLDS):
            for hold in (
                # The set: without the event, of other kinds, or descending.
                ((), heights), ((0,), heights), ((3,), heights), ((0, 3), heights), (list(chosen), heights),
                (None, heights), (chosen * 2, heights), (chosen + (0,), heights), (chosen + (4,), heights),
                ((-1,) + chosen, heights), (chosen[0], heights), (AnyEqual(), heights), ((True,), heights),
                # The heights: of other kinds, not right, at the time itself, and moved outside of the set.
                (chosen, None), (chosen, list(heights)), (chosen, heights[:3]), (chosen, heights + (9,)),
                (chosen, self.SECOND), (chosen, AnyEqual()), (chosen, (0, 8, 8, 10)), (chosen, (-1,) + heights[1:]),
                (chosen, heights[:3] + (10,)), (chosen, (0, 7, 7, 9)), (chosen, (0, 9, 8, 10)),
                (chosen, (0, 1, 8, 9)), (chosen, (0, 8, 2, 9)),
                # The whole hold.
                (chosen,), (chosen, heights, ()), [chosen, heights], None, (), AnyEqual(), (heights, chosen),
            ):
                self.assertIs(self.judged(holds=self.HOLDS[:k] + (hold,) + self.HOLDS[k + 1:]), False, hold)
            self.assertIs(self.judged(holds=self.HOLDS[:k] + self.HOLDS[k + 1:]), False)
            self.assertIs(self.judged(holds=self.HOLDS[:k] + self.HOLDS[k:k + 1] + self.HOLDS[k:]), False)
            for value in WRONG_SETS:
                self.assertIs(self.judged(holds=self.HOLDS[:k] + ((value, heights),) + self.HOLDS[k + 1:]), False)
            for value in NO_INTEGERS:
                changed = (chosen, heights[:3] + (value,))
                self.assertIs(self.judged(holds=self.HOLDS[:k] + (changed,) + self.HOLDS[k + 1:]), False)
        self.assertIs(self.judged(holds=self.HOLDS[::-1]), False)
        self.assertIs(self.judged(holds=()), False)

    def test_holds_of_an_event_that_is_lowered(self):
        # 1 comes down by 7, and takes 0 with it; 3 comes down alone.
        first, second, row = (5, 9, 9, 12), (0, 2, 9, 10), ((1, 2), (3, 10))
        self.assertEqual(way(FORK, first, second), row)
        moves = ((0, 5, 0, ((0, "low"),)), (1, 9, 2, ()), (3, 12, 10, ()))
        for first_hold, last_hold, right in (
            (((1,), (0, 3, 9, 10)), ((3,), (0, 2, 9, 11)), True),
            (((1,), (0, 9, 9, 10)), ((3,), (0, 2, 9, 11)), True),
            (((1,), (0, 10, 9, 10)), ((3,), (0, 2, 9, 11)), False),
            (((1,), (0, 2, 9, 10)), ((3,), (0, 2, 9, 11)), False),
            (((1,), (0, 3, 9, 10)), ((3,), (0, 2, 9, 10)), False),
            (((0, 1), (-1, 1, 9, 10)), ((3,), (0, 2, 9, 11)), False),
            (((0, 1), (1, 3, 9, 10)), ((3,), (0, 2, 9, 11)), True),
            (((0, 1), (1, 3, 9, 10)), ((2, 3), (0, 2, 8, 9)), False),
            (((0, 1), (1, 3, 9, 10)), ((2, 3), (0, 2, 8, 11)), True),
            (((0, 1), (1, 3, 9, 10)), ((0, 3), (0, 2, 9, 11)), False),
        ):
            value = (moves, (first_hold, last_hold))
            self.assertIs(accepts_way(FORK, first, second, row, value), right, value)

    def test_sets_that_have_an_event_in_common(self):
        self.assertIs(self.judged(holds=(((1, 3), (0, 7, 8, 9)), ((2,), (0, 8, 7, 9)))), True)
        for holds in (
            (((1, 3), (0, 7, 8, 9)), ((2, 3), (0, 8, 7, 9))), (((1, 2), (0, 7, 8, 9)), ((2,), (0, 8, 7, 9))),
            (((1,), (0, 7, 8, 9)), ((1, 2), (0, 8, 7, 9))), (((0, 1, 2, 3), (0, 7, 8, 9)), ((2,), (0, 8, 7, 9))),
            (((0, 1), (0, 7, 8, 9)), ((0, 2), (0, 8, 7, 9))),
        ):
            self.assertIs(self.judged(holds=holds), False, holds)

    def test_a_hold_for_an_event_that_does_not_move(self):
        first, second = (0, 5, 30), (7, 12, 30)
        moves = ((0, 0, 7, ()), (1, 5, 12, ((0, "low"),)))
        hold = ((0, 1), (6, 11, 30))
        self.assertIs(accepts_way(SHORT_NET, first, second, ((0, 7),), (moves, (hold,))), True)
        for more in (((2,), (7, 12, 31)), ((2,), (7, 12, 29)), ((2,), (7, 12, 30)), ((2,), second)):
            row = ((0, 7), (2, 30))
            self.assertIs(accepts_way(SHORT_NET, first, second, row, (moves, (hold, more))), False, more)

    def test_other_rows(self):
        for row in (
            (), self.ROW[:1], self.ROW[1:], ((1, 8), (2, 9)), ((1, 7), (2, 8)), ((1, 8), (3, 9)), ((0, 0),) + self.ROW,
            self.ROW + ((3, 9),), ((3, 9),), ((1, 8), (0, 0)),
        ):
            self.assertIs(self.judged(row=row), False, row)
        # A longer row that leads is not as short as possible, whatever the holds are.
        row = self.ROW + ((3, 9),)
        for hold in (((3,), (0, 8, 8, 8)), ((3,), (0, 8, 8, 9)), ((0, 3), (-1, 8, 8, 9))):
            self.assertIs(self.judged(row=row, holds=self.HOLDS + (hold,)), False)

    def test_accepted_evidence_shows_that_the_row_leads_and_that_no_fewer_events_do(self):
        numbers = Numbers(212)
        answers = []
        for net, first, second in ENDS:
            value = way_evidence(net, first, second)
            leading = leading_sets(net, first, second)
            for _ in range(6):
                events = tuple(event for event in range(net[0]) if numbers.below(2))
                row = tuple((event, second[event]) for event in events)
                moves, holds = self.drawn_evidence(net, first, second, row, numbers)
                for judged in ((moves, holds), (value[0], holds), (moves, value[1])):
                    answers.append(accepts_way(net, first, second, row, judged))
                    if answers[-1]:
                        self.assertIn(events, leading)
                        self.assertEqual(len(events), len(leading[0]))
        self.assertGreater(answers.count(True), 50)

    def drawn_evidence(self, net, first, second, row, numbers):
        """Evidence for the row, with the told moves of a row and sets and heights that are drawn."""
        found = sources(net, first, second)
        moves = way_evidence(net, first, second)[0]
        holds = []
        for event, time in row:
            chosen = next((source for source in found if event in source), (event,))
            short = numbers.choice((-1, -1, 1)) if first[event] < time else numbers.choice((1, 1, -1))
            heights = tuple(second[c] + short if c in chosen else second[c] for c in range(net[0]))
            holds.append((chosen, heights))
        return moves, tuple(holds)

    def test_values_of_other_kinds(self):
        for value in (
            None, True, 0, "", "ab", (), (self.MOVES,), (self.MOVES, self.HOLDS, ()), [self.MOVES, self.HOLDS],
            (list(self.MOVES), self.HOLDS), (self.MOVES, list(self.HOLDS)), (None, self.HOLDS), (self.MOVES, None),
            (self.HOLDS, self.MOVES), AnyEqual(), (AnyEqual(), self.HOLDS), (self.MOVES, AnyEqual()),
            (self.MOVES, (None, None)), (self.MOVES, "ab"), {self.MOVES: self.HOLDS}, (self.SECOND, self.MOVES),
        ):
            self.assertIs(accepts_way(FORK, self.FIRST, self.SECOND, self.ROW, value), False, value)


class RefusalsTest(unittest.TestCase):
    """Point 94: what is let, and what is not."""

    def test_times_of_500_are_let_and_times_of_501_are_not(self):
        net = (2, ((0, 1, None, 0),))
        for first, second in (((500, 500), (-500, -500)), ((-500, -500), (500, 500))):
            self.assertEqual(way(net, first, second), ((0, -500),) if second[0] < 0 else ((1, 500),))
            self.assertIs(leads(net, first, second, ()), False)
            self.assertIs(carries(net, first, second, 0, 1), second[0] < 0)
            self.assertEqual(len(sources(net, first, second)), 1)
            value = way_evidence(net, first, second)
            self.assertIs(accepts_way(net, first, second, way(net, first, second), value), True)
        for wrong in ((501, 500), (500, -501), (501, 501), (-501, -501), (1000, 0)):
            self.assertTrue(is_right(net, wrong))
            for function, more in (
                (leads, ((),)), (carries, (0, 1)), (sources, ()), (way, ()), (way_evidence, ()),
                (accepts_way, ((), None)),
            ):
                for values, name in (
                    ((wrong, (0, 0)), "first"), (((0, 0), wrong), "second"), ((wrong, wrong), "first"),
                ):
                    with self.assertRaises(BadValue) as caught:
                        function(net, *values, *more)
                    self.assertEqual(caught.exception.name, name)

    def test_sets_may_be_empty_but_not_of_other_kinds(self):
        self.assertIs(leads(NET, (0, 5, 5), (0, 5, 5), ()), True)
        self.assertIn((), WRONG_CHOICES)
        for chosen in WRONG_SETS:
            with self.assertRaises(BadValue, msg=chosen) as caught:
                leads(NET, (0, 5, 5), (0, 5, 5), chosen)
            self.assertEqual(caught.exception.name, "chosen")
        for times in WRONG_TIMES:
            with self.assertRaises(BadValue) as caught:
                leads(NET, times, times, None)
            self.assertEqual(caught.exception.name, "first")

    def test_news_of_a_row_need_not_be_those_of_the_second_times(self):
        for row in (((0, 8),), ((0, -500), (1, 500), (2, 0)), ()):
            self.assertIs(accepts_way(NET, (0, 5, 5), (7, 12, 12), row, None), False)


if __name__ == "__main__":
    unittest.main()
