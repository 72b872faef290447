"""Points 112 to 116: how nets, rows of news and times are written, and reading what was written."""

import unittest

from allbide.errors import BadValue
from allbide.reading import read_net, read_row, read_times
from allbide.scanning import scan
from allbide.writing import net_text, row_text, times_text
from tests.samples import LOST_NETS, NET, SHORT_NET, Numbers, kept_pairs, sample_nets, some_rows, varied_nets

SIX = (6, ())


def spaced(text, numbers):
    """The text with other spaces between its tokens, ahead of the first and behind the last one."""
    tokens = scan(text)
    found = " " * numbers.below(3)
    for (_, characters, column), (_, _, after) in zip(tokens, tokens[1:]):
        # Where there was no space, there may be some; where there was one, letters and numbers may need it.
        blank = after - column > len(characters)
        found += characters + " " * (numbers.between(1, 3) if blank else numbers.below(3))
    return found


def padded(text):
    """The text with zeros ahead of all numbers."""
    found, end = "", 0
    for kind, characters, column in scan(text):
        found += text[end:column - 1] + ("0" * (6 - len(characters)) if kind == "number" else "")
        end = column - 1
    return found + text[end:]


def all_nets():
    return (
        [net for net, _ in kept_pairs(260, 60, far=50)] + varied_nets(261, 60) + sample_nets()[::7] + list(LOST_NETS)
        + [(size, ()) for size in range(1, 7)] + [(6, ((5, 4, -100, 100),) * 12), (2, ((0, 1, None, 0),)), NET]
    )


class WrittenTest(unittest.TestCase):
    """Point 112."""

    def test_nets(self):
        for net, text in (
            ((1, ()), "1:"), ((6, ()), "6:"), (SHORT_NET, "3: b - a in 5..10; c - b in 0..; c - a in ..60"),
            ((2, ((1, 0, -3, None),)), "2: a - b in -3.."), ((2, ((0, 1, None, -3),)), "2: b - a in ..-3"),
            ((2, ((0, 1, -100, -100),)), "2: b - a in -100..-100"), ((2, ((0, 1, 0, 0),)), "2: b - a in 0..0"),
            ((6, ((4, 5, 100, None), (5, 3, None, 100))), "6: f - e in 100..; d - f in ..100"),
            ((2, ((0, 1, 10, 5),) * 2), "2: b - a in 10..5; b - a in 10..5"),
        ):
            self.assertEqual(net_text(net), text)

    def test_rows(self):
        for row, text in (
            ((), ""), (((0, 5),), "a = 5"), (((0, -2), (2, 7)), "a = -2, c = 7"), (((5, 0), (5, 0)), "f = 0, f = 0"),
            (((1, 500), (0, -500), (1, 10)), "b = 500, a = -500, b = 10"),
            (((4, -500),) * 8, ", ".join(["e = -500"] * 8)),
        ):
            self.assertEqual(row_text(row), text)

    def test_times(self):
        for net, times, text in (
            (NET, (0, 5, 30), "a = 0, b = 5, c = 30"), ((1, ()), (-1000,), "a = -1000"),
            (SIX, (1, -2, 3, -4, 1000, -1000), "a = 1, b = -2, c = 3, d = -4, e = 1000, f = -1000"),
            # They need not keep the net.
            (NET, (30, 5, 0), "a = 30, b = 5, c = 0"),
        ):
            self.assertEqual(times_text(net, times), text)

    def test_the_longest_texts(self):
        longest = net_text((6, ((5, 4, -100, -100),) * 12))
        self.assertEqual(longest, "6: " + "; ".join(["e - f in -100..-100"] * 12))
        self.assertEqual(read_net(longest), (6, ((5, 4, -100, -100),) * 12))
        self.assertLessEqual(len(longest), 600)

    def test_other_kinds_of_nets_rows_and_times(self):
        for function, values, name in (
            (net_text, ([3, ()],), "net"), (row_text, (((6, 0),),), "row"), (row_text, (((0, 0),) * 9,), "row"),
            (row_text, (((0, 501),),), "row"), (times_text, ((7, ()), (0,)), "net"),
            (times_text, (NET, (0, 0)), "times"), (times_text, (NET, (0, 0, 1001)), "times"),
        ):
            with self.assertRaises(BadValue) as caught:
                function(*values)
            self.assertEqual(caught.exception.name, name)


class ReadAgainTest(unittest.TestCase):
    """Points 113 and 114."""

    def assert_same_read_in_other_texts(self, text, reader, value, seed):
        numbers = Numbers(seed)
        self.assertEqual(reader(text), value, text)
        self.assertEqual(reader(padded(text)), value, padded(text))
        self.assertEqual(reader("  " + text + " "), value)
        for _ in range(4):
            other = spaced(text, numbers)
            if len(other) <= 600:
                self.assertEqual(reader(other), value, other)

    def test_nets(self):
        for k, net in enumerate(all_nets()):
            text = net_text(net)
            self.assert_same_read_in_other_texts(text, read_net, net, 262 + k)
            self.assertEqual(net_text(read_net(text)), text)
            # Without any space except between letters or digits.
            self.assertEqual(read_net(text.replace(" - ", "-").replace("; ", ";").replace(": ", ":")), net)

    def test_rows(self):
        for k, row in enumerate(some_rows(263, 100, 6, far=500)):
            text = row_text(row)
            self.assert_same_read_in_other_texts(text, lambda other: read_row(SIX, other), row, 264 + k)
            self.assertEqual(read_row(SIX, text.replace(" ", "")), row)

    def test_times(self):
        numbers = Numbers(265)
        for k, (net, _) in enumerate(kept_pairs(266, 60)):
            times = tuple(numbers.between(-1000, 1000) for _ in range(net[0]))
            text = times_text(net, times)
            self.assert_same_read_in_other_texts(text, lambda other: read_times(net, other), times, 267 + k)
            # The sequence of the pieces changes nothing.
            other = ", ".join(reversed(text.split(", ")))
            self.assertEqual(read_times(net, other), times)
            self.assertEqual(times_text(net, read_times(net, other)), text)

    def test_minus_zero(self):
        self.assertEqual(read_net("2: b - a in -0..-000000"), (2, ((0, 1, 0, 0),)))
        self.assertEqual(read_row(NET, "a = -0, b = - 00"), ((0, 0), (1, 0)))
        self.assertEqual(read_times((1, ()), "a=-0"), (0,))
        self.assertEqual(net_text(read_net("2: b - a in -0..")), "2: b - a in 0..")
        self.assertEqual(row_text(read_row(NET, "a = -0")), "a = 0")
        self.assertEqual(times_text((1, ()), read_times((1, ()), "a=-0")), "a = 0")


if __name__ == "__main__":
    unittest.main()
