"""Points 106 to 111 and 114 to 116: reading texts, what can come, and the problems of nets, rows and times."""

import unittest
from itertools import product

from allbide.errors import BadValue, TextError
from allbide.nets import is_net, is_times
from allbide.reading import next_tokens, read_net, read_row, read_times
from allbide.scanning import scan
from tests.samples import NET, SHORT_NET, WRONG_KINDS, WRONG_TEXTS, Numbers

SIX = (6, ())

# The texts of tokens of the grammars, and the words for each token, in the order in which they are told.
WORDS = {
    "b": "an event", "7": "a number", "in": "in", ":": '":"', ";": '";"', ",": '","', "=": '"="', "-": '"-"',
    "..": '".."', "": "the end",
}
INTEGERS = (["7"], ["-", "7"])
RULES = [
    ["b", "-", "b", "in", *sides] for sides in (
        *[[*low, ".."] for low in INTEGERS], *[["..", *high] for high in INTEGERS],
        *[[*low, "..", *high] for low, high in product(INTEGERS, INTEGERS)],
    )
]
NEWS = [["b", "=", *time] for time in INTEGERS]


def token_texts(parts, sign, most):
    """All sequences of at most so many of these parts, with the sign between them, as lists of tokens."""
    found = [[]]
    for many in range(1, most + 1):
        for chosen in product(parts, repeat=many):
            tokens = list(chosen[0])
            for part in chosen[1:]:
                tokens += [sign, *part]
            found.append(tokens)
    return found


NET_TEXTS = [["7", ":", *tokens] for tokens in token_texts(RULES, ";", 3)]
ROW_TEXTS = token_texts(NEWS, ",", 4)


def comings(texts):
    """For each beginning of one of the texts the set of the tokens that can come behind it; "" is the end."""
    found = {}
    for tokens in texts:
        for k in range(len(tokens)):
            found.setdefault(tuple(tokens[:k]), set()).add(tokens[k])
        found.setdefault(tuple(tokens), set()).add("")
    return found


def told(tokens):
    """What can come, in its order."""
    return [words for token, words in WORDS.items() if token in tokens]


def expected_words(tokens):
    """The words of the problem if only these tokens can come."""
    words = told(tokens)
    return "expected " + (words[0] if len(words) == 1 else ", ".join(words[:-1]) + " or " + words[-1])


# Of the longest texts only the beginnings with one part less, as one more could come behind them.
NET_COMINGS = {tokens: then for tokens, then in comings(NET_TEXTS).items() if tokens.count(";") < 2}
ROW_COMINGS = {tokens: then for tokens, then in comings(ROW_TEXTS).items() if tokens.count(",") < 3}


def problem(function, *values):
    """The column and the words of the problem that the call raises, or None."""
    try:
        function(*values)
    except TextError as error:
        return error.column, error.words
    return None


class ComingTest(unittest.TestCase):
    """Points 108 and 109."""

    def test_what_can_come_behind_all_beginnings(self):
        for kind, found in (("net", NET_COMINGS), ("row", ROW_COMINGS)):
            self.assertGreater(len(found), 20)
            for tokens, then in found.items():
                for text in (" ".join(tokens), "  ".join(tokens) + " ", " " + " ".join(tokens)):
                    self.assertEqual(next_tokens(text, kind), told(then), (text, kind))

    def test_by_hand(self):
        for text, kind, expected in (
            ("", "net", ["a number"]), ("3", "net", ['":"']), ("3:", "net", ["an event", "the end"]),
            ("3: b", "net", ['"-"']), ("3: b -", "net", ["an event"]), ("3: b - a", "net", ["in"]),
            ("3: b - a in", "net", ["a number", '"-"', '".."']), ("3: b - a in -", "net", ["a number"]),
            ("3: b - a in 5", "net", ['".."']), ("3: b - a in 5..", "net", ["a number", '";"', '"-"', "the end"]),
            ("3: b - a in 5..-", "net", ["a number"]), ("3: b - a in 5..10", "net", ['";"', "the end"]),
            ("3: b - a in ..", "net", ["a number", '"-"']), ("3: b - a in ..-", "net", ["a number"]),
            ("3: b - a in ..10", "net", ['";"', "the end"]), ("3: b - a in ..10;", "net", ["an event"]),
            ("3: b - a in 5..;", "net", ["an event"]), ("3: b - a in -5..;c", "net", ['"-"']),
            ("", "row", ["an event", "the end"]), ("a", "row", ['"="']), ("a =", "row", ["a number", '"-"']),
            ("a = -", "row", ["a number"]), ("a = 7", "row", ['","', "the end"]), ("a = -7", "row", ['","', "the end"]),
            ("a = 7,", "row", ["an event"]), ("a = 7, a", "row", ['"="']),
        ):
            found = next_tokens(text, kind)
            self.assertEqual(found, expected, text)
            self.assertIs(type(found), list)
            found.clear()
            self.assertEqual(next_tokens(text, kind), expected, text)

    def test_only_the_grammar_counts(self):
        # The numbers and the events are those of no net.
        self.assertEqual(next_tokens("999: f - f in 999..", "net"), ["a number", '";"', '"-"', "the end"])
        self.assertEqual(next_tokens("0" * 6 + ":", "net"), ["an event", "the end"])
        self.assertEqual(next_tokens("1:" + ";".join(["b-a in..1"] * 13), "net"), ['";"', "the end"])
        self.assertEqual(next_tokens(",".join(["f = 999"] * 9), "row"), ['","', "the end"])

    def test_a_token_that_cannot_come(self):
        readers = {"net": (read_net,), "row": (lambda text: read_row(SIX, text), lambda text: read_times(SIX, text))}
        for kind, found in (("net", NET_COMINGS), ("row", ROW_COMINGS)):
            for tokens, then in found.items():
                ahead = " ".join([*tokens, ""])
                expected = len(ahead) + 1, expected_words(then)
                for token in WORDS:
                    if token and token not in then:
                        for behind in ("", " b", " 7 in"):
                            text = ahead + token + behind
                            self.assertEqual(problem(next_tokens, text, kind), expected, text)
                            for reader in readers[kind]:
                                self.assertEqual(problem(reader, text), expected, text)
                # The end is such a token, too, except for what can come next.
                if "" not in then:
                    self.assertIsNone(problem(next_tokens, ahead, kind))
                    for reader in readers[kind]:
                        self.assertEqual(problem(reader, ahead), expected, ahead)

    def test_the_words_of_the_problem_by_hand(self):
        for text, column, words in (
            ("", 1, "expected a number"), ("   ", 4, "expected a number"), ("a", 1, "expected a number"),
            ("3", 2, 'expected ":"'), ("3 3", 3, 'expected ":"'), ("3: 3", 4, "expected an event or the end"),
            ("3:;", 3, "expected an event or the end"), ("3: b", 5, 'expected "-"'),
            ("3: b - in", 8, "expected an event"),
            ("3: b - a", 9, "expected in"), ("3: b - a - a", 10, "expected in"),
            ("3: b - a in", 12, 'expected a number, "-" or ".."'),
            ("3: b - a in ;", 13, 'expected a number, "-" or ".."'),
            ("3: b - a in 5", 14, 'expected ".."'), ("3: b - a in 5:", 14, 'expected ".."'),
            ("3: b - a in 5..c", 16, 'expected a number, ";", "-" or the end'),
            ("3: b - a in 5..5 5", 18, 'expected ";" or the end'), ("3: b - a in ..", 15, 'expected a number or "-"'),
            ("3: b - a in ..;", 15, 'expected a number or "-"'), ("3: b - a in 5..;", 17, "expected an event"),
            ("3: b - a in - -5..", 15, "expected a number"), ("-3:", 1, "expected a number"),
            ("3: b - a in 5..10,", 18, 'expected ";" or the end'),
            ("3: b - a in 5....", 16, 'expected a number, ";", "-" or the end'),
        ):
            self.assertEqual(problem(read_net, text), (column, words), text)
        for text, column, words in (
            ("7", 1, "expected an event or the end"), (",", 1, "expected an event or the end"),
            ("a", 2, 'expected "="'), ("a 7", 3, 'expected "="'), ("a = ", 5, 'expected a number or "-"'),
            ("a = b", 5, 'expected a number or "-"'),
            ("a = -", 6, "expected a number"), ("a = 7;", 6, 'expected "," or the end'),
            ("a = 7 7", 7, 'expected "," or the end'), ("a = 7,", 7, "expected an event"),
            ("a = 7, , b = 7", 8, "expected an event"), ("a = 7, in", 8, "expected an event"),
        ):
            for reader in (read_row, read_times):
                self.assertEqual(problem(reader, NET, text), (column, words), text)

    def test_a_problem_of_a_token_behind_it_comes_first(self):
        for text, column, words in (
            ("3: : xy", 6, "there is no such word"), ("a 3 .", 5, "no token begins here"),
            ("; ; 1234567", 5, "a number has at most 6 digits"), ("3 3 3 a b in B", 14, "no token begins here"),
        ):
            self.assertEqual(problem(read_net, text), (column, words))
            for kind in ("net", "row"):
                self.assertEqual(problem(next_tokens, text, kind), (column, words))
            for reader in (read_row, read_times):
                self.assertEqual(problem(reader, NET, text), (column, words))

    def test_tokens_that_cannot_come_come_ahead_of_the_problems_of_nets_rows_and_times(self):
        self.assertEqual(problem(read_net, "9: a - a in 999.."), (1, "a size is from 1 to 6"))
        self.assertEqual(problem(read_net, "9: a - a in 999.. 5 5"), (21, 'expected ";" or the end'))
        self.assertEqual(problem(read_row, NET, "f = 999, a"), (11, 'expected "="'))
        self.assertEqual(problem(read_times, NET, "f = 9999, f = 7,"), (17, "expected an event"))


class NetTest(unittest.TestCase):
    """Points 110, 114 and 116."""

    def test_the_example_of_point_116(self):
        self.assertEqual(read_net("3: b - a in 5..10; c - b in 0..; c - a in ..60"), SHORT_NET)

    def test_nets(self):
        for text, net in (
            ("1:", (1, ())), ("6:", (6, ())), (" 3 : ", (3, ())), ("000003:", (3, ())),
            ("2: b - a in 5..10", (2, ((0, 1, 5, 10),))), ("2: a - b in 5..10", (2, ((1, 0, 5, 10),))),
            ("2: b - a in 5..", (2, ((0, 1, 5, None),))), ("2: b - a in ..10", (2, ((0, 1, None, 10),))),
            ("2: b - a in -5..", (2, ((0, 1, -5, None),))), ("2: b - a in ..-10", (2, ((0, 1, None, -10),))),
            ("2: b - a in -100..100", (2, ((0, 1, -100, 100),))), ("2:b-a in100..-100", (2, ((0, 1, 100, -100),))),
            ("6: f - e in 0..0", (6, ((4, 5, 0, 0),))), ("2: b - a in -0..-0", (2, ((0, 1, 0, 0),))),
            ("2: b - a in - 7 .. - 9", (2, ((0, 1, -7, -9),))), ("2: b - a in 007..000100", (2, ((0, 1, 7, 100),))),
            ("3: " + "; ".join(["b - a in 5..10"] * 12), (3, ((0, 1, 5, 10),) * 12)),
            ("3: b - a in 1..; a - b in ..1; c - a in 1..2;b - c in ..3", (
                3, ((0, 1, 1, None), (1, 0, None, 1), (0, 2, 1, 2), (2, 1, None, 3)),
            )),
            # It need not be one that can be kept.
            ("2: b - a in 10..5", (2, ((0, 1, 10, 5),))),
        ):
            found = read_net(text)
            self.assertEqual(found, net, text)
            self.assertIs(is_net(found), True)

    def assert_problem(self, text, column, words):
        self.assertEqual(problem(read_net, text), (column, words), text)

    def test_the_size(self):
        for text, column in (
            ("0:", 1), ("7:", 1), (" 7:", 2), ("000:", 1), ("10:", 1), ("999999:", 1), ("  0: b - a in 5..", 3),
        ):
            self.assert_problem(text, column, "a size is from 1 to 6")
        for size in range(1, 7):
            self.assertEqual(read_net(f"{size}:"), (size, ()))

    def test_the_thirteenth_rule(self):
        twelve = "3: " + "; ".join(["b - a in 5..10"] * 12)
        for text in (twelve + "; b - a in 5..10", twelve + "; f - f in 999..", twelve + "; c - a in ..1; f - f in 9.."):
            self.assert_problem(text, len(twelve) + 3, "there are at most 12 rules")
        # A problem of an earlier rule comes first.
        self.assert_problem("3: b - a in 5..101" + "; b - a in 5..10" * 12, 16, "a side is from -100 to 100")

    def test_an_event_that_is_too_great(self):
        for text, column in (
            ("1: b - a in 5..", 4), ("1: a - b in 5..", 8), ("2: c - a in 5..", 4), ("2: a - c in 5..", 8),
            ("5: f - a in 5..", 4), ("5: a - f in 5..", 8), ("2: c - c in 5..", 4), ("2: f - e in 999..", 4),
            ("3: b - a in 5..10; c - d in 0..", 24), ("3: b - a in 5..10; d - c in 0..", 20),
        ):
            self.assert_problem(text, column, "there is no such event")

    def test_two_equal_events(self):
        for text, column in (
            ("2: b - b in 5..", 8), ("1: a - a in 5..", 8), ("2: a - a in 101..", 8), ("2:a-a in..1", 5),
            ("3: b - a in 5..10; c - c in 0..", 24),
        ):
            self.assert_problem(text, column, "a rule has two different events")
        # If the event is too great as well, this stands first.
        self.assert_problem("2: c - c in 5..", 4, "there is no such event")

    def test_sides(self):
        for text, column in (
            ("2: b - a in 101..", 13), ("2: b - a in -101..", 14), ("2: b - a in ..101", 15),
            ("2: b - a in ..-101", 16), ("2: b - a in 5..101", 16), ("2: b - a in 5..-101", 17),
            ("2: b - a in -5..- 101", 19),
            ("2: b - a in 101..101", 13), ("2: b - a in 000101..", 13), ("2: b - a in 999999..", 13),
            ("2: b - a in 5..10; b - a in -999..1", 30),
        ):
            self.assert_problem(text, column, "a side is from -100 to 100")
        for side in (-100, -99, 0, 99, 100):
            self.assertEqual(read_net(f"2: b - a in {side}.."), (2, ((0, 1, side, None),)))
            self.assertEqual(read_net(f"2: b - a in ..{side}"), (2, ((0, 1, None, side),)))

    def test_the_first_of_several(self):
        for text, column, words in (
            ("7: f - f in 999..999", 1, "a size is from 1 to 6"),
            ("3: d - d in 999..999", 4, "there is no such event"),
            ("3: c - d in 999..999", 8, "there is no such event"),
            ("3: c - c in 999..999", 8, "a rule has two different events"),
            ("3: c - a in 999..999; d - d in 1..", 13, "a side is from -100 to 100"),
            ("3: c - a in 9..999; d - d in 1..", 16, "a side is from -100 to 100"),
            ("3: c - a in 9..99; d - d in 101..", 20, "there is no such event"),
        ):
            self.assert_problem(text, column, words)


class RowTest(unittest.TestCase):
    """Points 111 and 114, of rows of news."""

    def test_rows(self):
        for text, row in (
            ("", ()), ("   ", ()), ("a = 5", ((0, 5),)), ("c=-7", ((2, -7),)), ("a = -0", ((0, 0),)),
            ("c = 7, a = -2, c = 9", ((2, 7), (0, -2), (2, 9))), ("a=500,b=-500", ((0, 500), (1, -500))),
            ("b = 000500 , b = - 000500", ((1, 500), (1, -500))), (", ".join(["a = 7"] * 8), ((0, 7),) * 8),
        ):
            self.assertEqual(read_row(NET, text), row, text)
        self.assertEqual(read_row(SIX, "f = 1, e = 2"), ((5, 1), (4, 2)))
        self.assertEqual(read_row((1, ()), "a = 1, a = 2"), ((0, 1), (0, 2)))

    def assert_problem(self, net, text, column, words):
        self.assertEqual(problem(read_row, net, text), (column, words), text)

    def test_the_ninth_piece_of_news(self):
        eight = ", ".join(["a = 7"] * 8)
        for text in (eight + ", a = 7", eight + ", f = 999", eight + ", f = 999, b = 7"):
            self.assert_problem(NET, text, len(eight) + 3, "there are at most 8 pieces of news")
        self.assert_problem(NET, "a = 501, " + eight, 5, "a time is from -500 to 500")
        self.assertEqual(problem(read_times, NET, eight + ", a = 7"), (8, "this event stands already"))

    def test_an_event_that_is_too_great(self):
        for net, text, column in (
            (NET, "d = 7", 1), (NET, "a = 7, d = 999", 8), ((1, ()), "b = 7", 1), ((5, ()), "a = 1,f = 7", 7),
            (NET, "d = 999", 1),
        ):
            self.assert_problem(net, text, column, "there is no such event")

    def test_times_of_501(self):
        for text, column in (
            ("a = 501", 5), ("a = -501", 6), ("a = 7, b = 501", 12), ("a = - 501", 7), ("a=999999", 3),
            ("a = 501, d = 7", 5), ("a = 000501", 5),
        ):
            self.assert_problem(NET, text, column, "a time is from -500 to 500")
        for time in (-500, 500):
            self.assertEqual(read_row(NET, f"a = {time}"), ((0, time),))

    def test_an_event_may_stand_again_or_be_missing(self):
        self.assertEqual(read_row(NET, "a = 7, a = 8"), ((0, 7), (0, 8)))
        self.assertEqual(read_row(NET, "c = 7"), ((2, 7),))


class TimesTest(unittest.TestCase):
    """Points 111 and 114, of times."""

    def test_times(self):
        for text, times in (
            ("a = 0, b = 5, c = 30", (0, 5, 30)), ("c=30,a=0,b=5", (0, 5, 30)),
            ("b=-1000,c=1000,a=-0", (0, -1000, 1000)),
            # They need not keep the net.
            (" a = 00 , b = 0 , c = - 7 ", (0, 0, -7)),
        ):
            found = read_times(NET, text)
            self.assertEqual(found, times, text)
            self.assertIs(is_times(found, NET), True)
        self.assertEqual(read_times((1, ()), "a = 7"), (7,))
        self.assertEqual(read_times(SIX, "f = 6, e = 5, d = 4, c = 3, b = 2, a = 1"), (1, 2, 3, 4, 5, 6))

    def assert_problem(self, text, column, words, net=NET):
        self.assertEqual(problem(read_times, net, text), (column, words), text)

    def test_an_event_that_is_too_great(self):
        self.assert_problem("d = 7", 1, "there is no such event")
        self.assert_problem("a = 1, b = 2, c = 3, d = 9999", 22, "there is no such event")
        self.assert_problem("f = 1", 1, "there is no such event", (5, ()))

    def test_an_event_that_stands_already(self):
        for text, column in (
            ("a = 1, a = 1", 8), ("a = 1, b = 2, c = 3, a = 1", 22), ("b = 1, a = 2, b = 9999", 15), ("c=1,c=2,d=3", 5),
        ):
            self.assert_problem(text, column, "this event stands already")

    def test_times_of_1001(self):
        for text, column in (
            ("a = 1001, b = 2, c = 3", 5), ("a = 1, b = -1001, c = 3", 13), ("a = 1, b = 2, c = 1001", 19),
            ("a = 1001", 5), ("a = 1001, a = 1, d = 1", 5), ("a = - 1001", 7), ("a = 001001", 5),
        ):
            self.assert_problem(text, column, "a time is from -1000 to 1000")
        self.assertEqual(read_times(NET, "a = 1000, b = -1000, c = 501"), (1000, -1000, 501))

    def test_an_event_that_is_missing(self):
        for text, column in (
            ("", 1), ("  ", 3), ("a = 1", 6), ("a = 1, b = 2", 13), ("a = 1, c = 2  ", 15), ("c = 1", 6),
        ):
            self.assert_problem(text, column, "an event is missing")
        self.assert_problem("", 1, "an event is missing", (1, ()))

    def test_the_first_of_several(self):
        for text, column, words in (
            ("a = 1, d = 1, a = 1", 8, "there is no such event"),
            ("a = 1, a = 1, d = 1", 8, "this event stands already"),
            ("a = 1, b = 1001, a = 1", 12, "a time is from -1000 to 1000"),
            ("b = 7, b = 1001", 8, "this event stands already"), ("b = 1001", 5, "a time is from -1000 to 1000"),
        ):
            self.assert_problem(text, column, words)


class RefusalsTest(unittest.TestCase):
    """Points 106 and 115."""

    def test_texts_of_600_and_601_characters(self):
        for function, values, more in (
            (read_net, (), ()), (read_row, (SIX,), ()), (read_times, (SIX,), ()), (next_tokens, (), ("net",)),
            (next_tokens, (), ("row",)),
        ):
            for text in (" " * 601, "a" * 601, ". " * 301):
                with self.assertRaises(BadValue) as caught:
                    function(*values, text, *more)
                self.assertEqual(caught.exception.name, "text")
        self.assertEqual(read_net("3:" + " " * 598), (3, ()))
        self.assertEqual(read_row(SIX, " " * 595 + "a = 7"), ((0, 7),))
        self.assertEqual(problem(read_times, SIX, " " * 600), (601, "an event is missing"))
        self.assertEqual(next_tokens(" " * 600, "row"), ["an event", "the end"])

    def test_bad_values_come_ahead_of_text_errors_and_in_the_order_of_the_parameters(self):
        for text in ("xy", "3: : .", "", *WRONG_TEXTS):
            for kind in WRONG_KINDS:
                with self.assertRaises(BadValue) as caught:
                    next_tokens(text, kind)
                name = "kind" if text in ("xy", "3: : .", "") and isinstance(text, str) else "text"
                self.assertEqual(caught.exception.name, name)
            for function in (read_row, read_times):
                with self.assertRaises(BadValue) as caught:
                    function((3, [()]), text)
                self.assertEqual(caught.exception.name, "net")

    def test_the_same_text_is_read_in_the_same_way(self):
        numbers = Numbers(250)
        for tokens in NET_TEXTS[::9]:
            text = " ".join(tokens).replace("7", str(numbers.between(1, 6))).replace("b - b", "b - a")
            self.assertEqual(problem(read_net, text), problem(read_net, text))
            self.assertEqual(scan(text), scan(text))


if __name__ == "__main__":
    unittest.main()
