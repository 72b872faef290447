"""Points 106, 107 and 115: texts, their tokens and columns, and the problems of tokens."""

import re
import unittest

from allbide.errors import BadValue, TextError
from allbide.scanning import scan
from tests.samples import WRONG_TEXTS, Numbers

NO_TOKEN = "no token begins here"
NO_WORD = "there is no such word"
LONG_NUMBER = "a number has at most 6 digits"


def tokens_by_words(text):
    """The tokens of the text, or a pair of the column and the words of its first problem, as point 107 says it."""
    tokens = []
    for found in re.finditer(r"([a-z]+)|([0-9]+)|(\.\.|[:;,=-])|( +)|([\s\S])", text):
        letters, digits, sign, blanks, other = found.groups()
        column = found.start() + 1
        if letters:
            if letters != "in" and letters not in tuple("abcdef"):
                return column, NO_WORD
            tokens.append(("word" if letters == "in" else "event", letters, column))
        elif digits:
            if len(digits) > 6:
                return column, LONG_NUMBER
            tokens.append(("number", digits, column))
        elif sign:
            tokens.append(("sign", sign, column))
        elif other:
            return column, NO_TOKEN
    return [*tokens, ("end", "", len(text) + 1)]


def scanned(text):
    """What `scan` returns, or a pair of the column and the words of the problem that it raises."""
    try:
        return scan(text)
    except TextError as error:
        return error.column, error.words


def drawn_texts(seed, many, pieces, most):
    """Texts of some of these pieces, one directly behind the other."""
    numbers = Numbers(seed)
    return ["".join(numbers.choice(pieces) for _ in range(numbers.below(most + 1))) for _ in range(many)]


class TokensTest(unittest.TestCase):
    def test_an_empty_text_and_blanks(self):
        self.assertEqual(scan(""), [("end", "", 1)])
        self.assertEqual(scan("   "), [("end", "", 4)])

    def test_each_kind_of_token(self):
        for column, letter in enumerate("abcdef", 1):
            self.assertEqual(scan(letter), [("event", letter, 1), ("end", "", 2)])
            self.assertEqual(scan(" " * column + letter)[0], ("event", letter, column + 1))
        self.assertEqual(scan("in"), [("word", "in", 1), ("end", "", 3)])
        for number in ("0", "7", "007", "999999", "000000", "123456"):
            self.assertEqual(scan(number), [("number", number, 1), ("end", "", len(number) + 1)])
        for sign in (":", ";", ",", "=", "-", ".."):
            self.assertEqual(scan(sign), [("sign", sign, 1), ("end", "", len(sign) + 1)])

    def test_a_text_of_a_net_with_and_without_blanks(self):
        expected = [
            ("number", "3"), ("sign", ":"), ("event", "b"), ("sign", "-"), ("event", "a"), ("word", "in"),
            ("number", "5"), ("sign", ".."), ("number", "10"), ("sign", ";"), ("event", "c"), ("sign", "-"),
            ("event", "b"), ("word", "in"), ("sign", "-"), ("number", "0"), ("sign", ".."), ("end", ""),
        ]
        for text, columns in (
            ("3: b - a in 5..10; c - b in -0..", (1, 2, 4, 6, 8, 10, 13, 14, 16, 18, 20, 22, 24, 26, 29, 30, 31, 33)),
            ("3:b-a in5..10;c-b in-0..", (1, 2, 3, 4, 5, 7, 9, 10, 12, 14, 15, 16, 17, 19, 21, 22, 23, 25)),
            ("  3 :b -a  in 5 .. 10 ;c- b in - 0 ..  ", (
                3, 5, 6, 8, 9, 12, 15, 17, 20, 23, 24, 25, 27, 29, 32, 34, 36, 40,
            )),
        ):
            self.assertEqual(scan(text), [(*token, column) for token, column in zip(expected, columns)])

    def test_a_text_of_a_row(self):
        self.assertEqual(scan("c=-7, a = 12 "), [
            ("event", "c", 1), ("sign", "=", 2), ("sign", "-", 3), ("number", "7", 4), ("sign", ",", 5),
            ("event", "a", 7), ("sign", "=", 9), ("number", "12", 11), ("end", "", 14),
        ])

    def test_each_token_is_as_long_as_possible(self):
        for text, expected in (
            ("12", [("number", "12", 1)]), ("1 2", [("number", "1", 1), ("number", "2", 3)]),
            ("....", [("sign", "..", 1), ("sign", "..", 3)]), (".. ..", [("sign", "..", 1), ("sign", "..", 4)]),
            ("1..2", [("number", "1", 1), ("sign", "..", 2), ("number", "2", 4)]),
            ("a1in", [("event", "a", 1), ("number", "1", 2), ("word", "in", 3)]),
            ("--", [("sign", "-", 1), ("sign", "-", 2)]), ("a in", [("event", "a", 1), ("word", "in", 3)]),
            ("5in5", [("number", "5", 1), ("word", "in", 2), ("number", "5", 4)]),
            ("a b", [("event", "a", 1), ("event", "b", 3)]), ("::", [("sign", ":", 1), ("sign", ":", 2)]),
            (":;,=-..", [
                ("sign", ":", 1), ("sign", ";", 2), ("sign", ",", 3), ("sign", "=", 4), ("sign", "-", 5),
                ("sign", "..", 6),
            ]),
            ("123456 1", [("number", "123456", 1), ("number", "1", 8)]),
        ):
            self.assertEqual(scan(text), expected + [("end", "", len(text) + 1)])

    def test_a_new_list_of_tuples_each_time(self):
        tokens = scan("a = 5")
        self.assertIs(type(tokens), list)
        self.assertTrue(all(type(token) is tuple and len(token) == 3 for token in tokens))
        tokens.clear()
        self.assertEqual(len(scan("a = 5")), 4)


class ProblemsTest(unittest.TestCase):
    def assert_problem(self, text, column, words):
        self.assertEqual(scanned(text), (column, words), text)

    def test_no_token_begins_here(self):
        for character in "+*/.!?()[]{}<>|&_'\"\\@#~^$A BZIN\t\r\x00\x0b\u00e9\u0661\u00b2\u3000\u00a0".replace(" ", ""):
            self.assert_problem(character, 1, NO_TOKEN)
            self.assert_problem("3: " + character, 4, NO_TOKEN)
            self.assert_problem("a" + character, 2, NO_TOKEN)
            self.assert_problem("12" + character + "3", 3, NO_TOKEN)

    def test_a_single_point(self):
        for text, column in ((".", 1), ("...", 3), ("5.5", 2), (". .", 1), ("a = 5 .", 7), (".....", 5), (".. .", 4)):
            self.assert_problem(text, column, NO_TOKEN)

    def test_there_is_no_such_word(self):
        for text, column in (
            ("g", 1), ("z", 1), ("ab", 1), ("aa", 1), ("i", 1), ("n", 1), ("ni", 1), ("inn", 1), ("ain", 1),
            ("ina", 1), ("abcdef", 1), ("a in  out", 7), ("3: bc", 4), ("a=5x", 4), ("in in inin", 7), ("bin", 1),
        ):
            self.assert_problem(text, column, NO_WORD)

    def test_a_number_has_at_most_six_digits(self):
        self.assertEqual(scan("123456")[0], ("number", "123456", 1))
        for text, column in (
            ("1234567", 1), ("0000001", 1), ("a = 0000000", 5), ("123456 1234567", 8), ("..1000000", 3),
            ("9" * 600, 1), ("-1234567", 2),
        ):
            self.assert_problem(text, column, LONG_NUMBER)

    def test_the_first_of_several(self):
        for text, column, words in (
            ("xy . 1234567", 1, NO_WORD), (". xy 1234567", 1, NO_TOKEN), ("1234567 xy .", 1, LONG_NUMBER),
            ("a xy .", 3, NO_WORD), ("a . xy", 3, NO_TOKEN), ("a1234567.xy", 2, LONG_NUMBER), ("A..b", 1, NO_TOKEN),
            ("aB", 2, NO_TOKEN), ("inB", 3, NO_TOKEN), ("Bin", 1, NO_TOKEN), ("abB", 1, NO_WORD),
        ):
            self.assert_problem(text, column, words)

    def test_drawn_texts(self):
        kinds = {}
        pieces = ["a", "f", "in", "i", "g", "5", "12", "3456", ":", ";", ",", "=", "-", "..", ".", " ", "  ", "A", "+"]
        safe = [piece for piece in pieces if piece not in ("i", "g", ".", "A", "+")]
        spaced = [piece + " " for piece in safe]
        for text in (
            drawn_texts(240, 1500, pieces, 6) + drawn_texts(241, 700, safe, 8) + drawn_texts(242, 300, spaced, 20)
        ):
            expected = tokens_by_words(text)
            kind = expected[1] if type(expected) is tuple else ""
            kinds[kind] = kinds.get(kind, 0) + 1
            self.assertEqual(scanned(text), expected, text)
        self.assertEqual(set(kinds), {"", NO_TOKEN, NO_WORD, LONG_NUMBER})
        self.assertGreater(min(kinds.values()), 15)


class TextsTest(unittest.TestCase):
    """Points 106 and 115."""

    def test_texts_of_600_and_of_601_characters(self):
        self.assertEqual(scan(" " * 600), [("end", "", 601)])
        self.assertEqual(len(scan("a " * 300)), 301)
        self.assertEqual(scan(" " * 599 + "a")[0], ("event", "a", 600))
        for text in (" " * 601, "a " * 300 + "a", "a" * 601, "." * 601):
            with self.assertRaises(BadValue) as caught:
                scan(text)
            self.assertEqual(caught.exception.name, "text")

    def test_newlines(self):
        for text in ("\n", "a\n", "\na", "3:\n", "xy\n", " " * 599 + "\n"):
            with self.assertRaises(BadValue) as caught:
                scan(text)
            self.assertEqual(caught.exception.name, "text")
        # Line feeds alone are newlines.
        for character in "\r\x0b\x0c\x1c\x85\u2028\u2029":
            with self.assertRaises(TextError) as caught:
                scan("a" + character)
            self.assertEqual((caught.exception.column, caught.exception.words), (2, NO_TOKEN))

    def test_values_that_are_no_texts(self):
        for text in WRONG_TEXTS:
            with self.assertRaises(BadValue) as caught:
                scan(text)
            self.assertEqual(caught.exception.name, "text")

    def test_the_same_text_has_the_same_tokens(self):
        text = "3: b - a in 5..10"
        self.assertEqual(scan(text), scan(text))
        self.assertEqual(scan(text), scan("".join(list(text))))
        self.assertEqual(text, "3: b - a in 5..10")


if __name__ == "__main__":
    unittest.main()
