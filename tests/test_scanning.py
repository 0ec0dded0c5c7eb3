"""Points 103, 104 and 112: texts and their tokens."""

import re
import unittest
from random import Random

from surepast.errors import BadValue, PastError, TextError
from surepast.scanning import scan
from tests.samples import STRANGE

NO_TOKEN = "no token begins here"
LONG_NUMBER = "a number has at most 6 digits"
# Neither a blank, a digit nor a sign of this document, though some of them count as such elsewhere.
OTHERS = [
    "\t", "\r", "\x0b", "\x0c", "\x00", "\x1c", "\x1d", "\x1e", "\x1f", "\x85", "\xa0", "\u1680", "\u2003", "\u2028", "\u2029",
    "\u202f", "\u3000", "\ufeff", "\u0661", "\u0967", "\uff11", "\u00b2", "\u00bd", "\u2460", "\u2167", "\u4e00", "\U0001d7d9",
    "\uff5c", "\uff0c", "\u060c", "\u00a6", "a", "A", "x", "_", "-", "+", ".", ";", ":", "/", "\\", "'", '"', "(", ")", "!",
    "e", "l", "O", "#", "$", "&", "*", "<", ">", "[", "]", "{", "}", "~", "`", "^", "@", "?", "=", "\x7f", "%",
]


def plain_scan(text):
    """Point 104 by a pattern: the tokens, or the column and the words of the first problem."""
    tokens = []
    for found in re.finditer(r"[0-9]+|[|,]|[^ ]", text):
        word, column = found.group(), found.start() + 1
        if word in "|,":
            tokens.append(("sign", word, column))
        elif not re.fullmatch("[0-9]+", word):
            return column, NO_TOKEN
        elif len(word) > 6:
            return column, LONG_NUMBER
        else:
            tokens.append(("number", word, column))
    return tokens + [("end", "", len(text) + 1)]


def outcome(text):
    try:
        return scan(text)
    except TextError as error:
        return error.column, error.words


class Tokens(unittest.TestCase):
    def test_the_empty_text_and_blanks(self):
        for many in (0, 1, 2, 7, 400):
            self.assertEqual(scan(" " * many), [("end", "", many + 1)])

    def test_numbers_signs_and_blanks(self):
        self.assertEqual(scan("7"), [("number", "7", 1), ("end", "", 2)])
        self.assertEqual(scan("  12 |,0"), [
            ("number", "12", 3), ("sign", "|", 6), ("sign", ",", 7), ("number", "0", 8), ("end", "", 9),
        ])
        self.assertEqual(scan("0 2 | 0 1, 1 0  "), [
            ("number", "0", 1), ("number", "2", 3), ("sign", "|", 5), ("number", "0", 7), ("number", "1", 9), ("sign", ",", 10),
            ("number", "1", 12), ("number", "0", 14), ("end", "", 17),
        ])

    def test_a_number_is_as_long_as_possible(self):
        self.assertEqual(scan("1234"), [("number", "1234", 1), ("end", "", 5)])
        self.assertEqual(scan("12 34"), [("number", "12", 1), ("number", "34", 4), ("end", "", 6)])
        self.assertEqual(scan("12,34"), [("number", "12", 1), ("sign", ",", 3), ("number", "34", 4), ("end", "", 6)])

    def test_signs_side_by_side(self):
        self.assertEqual([token[1] for token in scan("||,,|,")], ["|", "|", ",", ",", "|", ",", ""])
        self.assertEqual([token[2] for token in scan("||,,|,")], [1, 2, 3, 4, 5, 6, 7])

    def test_zeros_ahead_stay_in_the_characters(self):
        self.assertEqual(scan("007 000000"), [("number", "007", 1), ("number", "000000", 5), ("end", "", 11)])

    def test_each_digit(self):
        for digit in "0123456789":
            self.assertEqual(scan(digit), [("number", digit, 1), ("end", "", 2)])
            self.assertEqual(scan("0" + digit + "|"), [("number", "0" + digit, 1), ("sign", "|", 3), ("end", "", 4)])

    def test_the_column_of_the_end(self):
        for text, column in (("", 1), ("5", 2), ("5 ", 3), (" 5   ", 6), ("|", 2), ("1" + " " * 399, 401), ("1 " * 200, 401)):
            self.assertEqual(scan(text)[-1], ("end", "", column))

    def test_kinds_of_what_is_returned(self):
        told = scan("1 | 2, 3")
        self.assertIs(type(told), list)
        self.assertEqual({type(token) for token in told}, {tuple})
        self.assertEqual({tuple(type(part) for part in token) for token in told}, {(str, str, int)})

    def test_against_a_pattern(self):
        source = Random(104)
        problems = 0
        for _ in range(4000):
            text = "".join(source.choices("0123456789 |,x", (1,) * 10 + (4, 2, 2, 0.1), k=source.randint(0, 60)))
            self.assertEqual(outcome(text), plain_scan(text), text)
            problems += isinstance(outcome(text), tuple)
        self.assertGreater(problems, 100)


class Problems(unittest.TestCase):
    def test_no_token_begins_here(self):
        for other in OTHERS:
            self.assertEqual(outcome(other), (1, NO_TOKEN), other)
            self.assertEqual(outcome("0 | " + other), (5, NO_TOKEN), other)
            self.assertEqual(outcome("12" + other + "3"), (3, NO_TOKEN), other)
            self.assertEqual(outcome(" " + other + " "), (2, NO_TOKEN), other)
            self.assertEqual(outcome(" ," + other), (3, NO_TOKEN), other)

    def test_six_digits_and_seven(self):
        self.assertEqual(scan("123456"), [("number", "123456", 1), ("end", "", 7)])
        self.assertEqual(scan("000000"), [("number", "000000", 1), ("end", "", 7)])
        for number in ("1234567", "0000000", "12345678", "9" * 400, "0" * 7):
            self.assertEqual(outcome(number), (1, LONG_NUMBER))
        self.assertEqual(outcome("1 | 123456 1234567"), (12, LONG_NUMBER))
        self.assertEqual(scan("123456 123456,123456")[2], ("sign", ",", 14))

    def test_the_first_one_of_several(self):
        self.assertEqual(outcome("1 x 1234567"), (3, NO_TOKEN))
        self.assertEqual(outcome("1 1234567 x"), (3, LONG_NUMBER))
        self.assertEqual(outcome("1234567x"), (1, LONG_NUMBER))
        self.assertEqual(outcome("x1234567"), (1, NO_TOKEN))
        self.assertEqual(outcome("1234567 12345678"), (1, LONG_NUMBER))
        self.assertEqual(outcome("|- +"), (2, NO_TOKEN))

    def test_what_stands_before_does_not_count_whether_it_can_come_or_not(self):
        self.assertEqual(outcome("| , 0 x"), (7, NO_TOKEN))
        self.assertEqual(outcome(", , , 9999999"), (7, LONG_NUMBER))

    def test_at_the_last_character(self):
        self.assertEqual(outcome("1 " * 199 + " x"), (400, NO_TOKEN))
        self.assertEqual(outcome("x" + " " * 399), (1, NO_TOKEN))
        self.assertEqual(outcome(" " * 393 + "1234567"), (394, LONG_NUMBER))

    def test_which_error(self):
        for text in ("x", "1234567"):
            with self.assertRaises(PastError) as caught:
                scan(text)
            self.assertIs(type(caught.exception), TextError)
            self.assertIs(type(caught.exception.column), int)


class WrongTexts(unittest.TestCase):
    def assert_wrong(self, value):
        with self.assertRaises(PastError) as caught:
            scan(value)
        self.assertIs(type(caught.exception), BadValue, value)
        self.assertEqual(caught.exception.name, "text")

    def test_400_characters_and_401(self):
        for text in ("1 ", " ", "|", "0,", "12 4"):
            self.assertEqual(scan((text * 400)[:400])[-1], ("end", "", 401))
            self.assert_wrong((text * 401)[:401])
            self.assert_wrong(text * 500)
        self.assert_wrong("x" * 401)
        self.assertEqual(outcome("\u4e00" * 400), (1, NO_TOKEN))

    def test_newlines(self):
        for text in ("\n", "0\n", "\n0", "0 | 0 |\n0", "x\n", "1234567\n", "\r\n", "\n" * 400, " " * 399 + "\n"):
            self.assert_wrong(text)

    def test_a_newline_is_the_line_feed_alone(self):
        for other in ("\r", "\x0b", "\x0c", "\x1c", "\x85", "\u2028", "\u2029"):
            self.assertEqual(outcome("0" + other + "0"), (2, NO_TOKEN))

    def test_what_is_no_string(self):
        for value in [value for value in STRANGE if not isinstance(value, str)]:
            self.assert_wrong(value)
        for value in (0, 12, b"0 1", ["0", "1"], ("0", "1"), ("0",), {"0": 1}, bytearray(b"0"), (), ("end", "", 1)):
            self.assert_wrong(value)

    def test_the_returned_list_is_a_new_one(self):
        for text in ("", "0 1, 2", "|"):
            first = scan(text)
            kept = list(first)
            first.append("more")
            first.reverse()
            self.assertEqual(scan(text), kept)
            scan(text).clear()
            self.assertEqual(scan(text), kept)
            self.assertIsNot(scan(text), scan(text))


if __name__ == "__main__":
    unittest.main()
