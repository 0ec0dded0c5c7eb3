"""Points 105 and 106: what can come at each place of a text, and what cannot."""

import re
import unittest
from itertools import product

from surepast.errors import BadValue, PastError, TextError
from surepast.reading import next_tokens, read_model, read_row, read_signs
from tests.samples import TOLD

# A token is told by one letter here: a number is "n", and the end "$".
GRAMMARS = {"model": r"n+\|n+(,n+)*\|n+(,n+)*\$", "numbers": r"n*\$"}
REST = ["", "$", "n$", "|n$", "|n|n$", "n|n$", "n|n|n$"]
WORDS = {"n": "a number", "|": '"|"', ",": '","', "$": "the end"}


def is_beginning(letters, kind):
    """Whether these are the beginning of a text of the grammar."""
    return any(re.fullmatch(GRAMMARS[kind], letters + rest) for rest in REST)


def able_behind(letters, kind):
    return [WORDS[letter] for letter in "n|,$" if is_beginning(letters + letter, kind)]


def expected(able):
    """The words of point 106."""
    if len(able) == 1:
        return "expected " + able[0]
    return "expected " + ", ".join(able[:-1]) + " or " + able[-1]


def first_wrong(letters, kind):
    """The place of the first letter that cannot come, or None."""
    for at in range(len(letters)):
        if not is_beginning(letters[:at + 1], kind):
            return at
    return None


def text_of(letters):
    """A text with these tokens, each with a blank behind it, and the columns of the tokens."""
    words = ["0" if letter == "n" else letter for letter in letters.rstrip("$")]
    return "".join(word + " " for word in words), [1 + 2 * at for at in range(len(letters))]


def all_letters(most):
    for many in range(most + 1):
        for letters in product("n|,", repeat=many):
            yield "".join(letters)


def problem(call, *arguments):
    """The column and the words of the error, or None."""
    try:
        call(*arguments)
    except TextError as error:
        return error.column, error.words
    return None


class Expectations(unittest.TestCase):
    def test_what_is_listed(self):
        self.assertEqual(expected(["a number"]), "expected a number")
        self.assertEqual(expected(["a number", '"|"', '","']), 'expected a number, "|" or ","')
        self.assertEqual(able_behind("n|n|n", "model"), ["a number", '","', "the end"])


class NextTokens(unittest.TestCase):
    def test_behind_each_place_of_a_model(self):
        places = {
            "": ["a number"],
            "0": ["a number", '"|"'],
            "0 1 2": ["a number", '"|"'],
            "0 |": ["a number"],
            "0 | 1": ["a number", '"|"', '","'],
            "0 | 1 2": ["a number", '"|"', '","'],
            "0 | 1,": ["a number"],
            "0 | 1, 2": ["a number", '"|"', '","'],
            "0 | 1 |": ["a number"],
            "0 | 1 | 2": ["a number", '","', "the end"],
            "0 | 1 | 2 0": ["a number", '","', "the end"],
            "0 | 1 | 2,": ["a number"],
            "0 | 1 | 2, 3": ["a number", '","', "the end"],
        }
        for text, told in places.items():
            for here in (text, text + " ", "  " + text, text.replace(" ", "   "), text + " " * 30):
                self.assertEqual(next_tokens(here, "model"), told)

    def test_behind_each_place_of_numbers(self):
        for text in ("", " ", "0", "0 1 2", "7 " * 20, "7 " * 21, "999999 " * 50):
            self.assertEqual(next_tokens(text, "numbers"), ["a number", "the end"])

    def test_all_beginnings(self):
        right = 0
        for kind in GRAMMARS:
            for letters in all_letters(8):
                text, columns = text_of(letters)
                at = first_wrong(letters, kind)
                if at is None:
                    self.assertEqual(next_tokens(text, kind), able_behind(letters, kind))
                    right += 1
                else:
                    words = expected(able_behind(letters[:at], kind))
                    self.assertEqual(problem(next_tokens, text, kind), (columns[at], words), text)
        self.assertGreater(right, 150)

    def test_how_many_costs_and_rows_there_are_does_not_count(self):
        self.assertEqual(next_tokens("9 9 9 9 | 1", "model"), ["a number", '"|"', '","'])
        self.assertEqual(next_tokens("1 2 | 0 | 000000", "model"), ["a number", '","', "the end"])
        self.assertEqual(next_tokens("1 | 0, 1, 2, 3, 4", "model"), ["a number", '"|"', '","'])

    def test_the_end_is_not_reached(self):
        for text in ("0", "0 |", "0 | 1", ""):
            next_tokens(text, "model")
            self.assertIsNotNone(problem(read_model, text))

    def test_tokens_without_blanks(self):
        self.assertEqual(next_tokens("0|1,2|", "model"), ["a number"])
        self.assertEqual(problem(next_tokens, "0|1,|", "model"), (5, "expected a number"))

    def test_problems_of_tokens_come_first(self):
        for text, found in (
            ("| | x", (5, "no token begins here")), (", 1234567", (3, "a number has at most 6 digits")),
            ("0 | | 1 .", (9, "no token begins here")), ("x |", (1, "no token begins here")),
            ("0 | 1 | 2 | 1234567 x", (13, "a number has at most 6 digits")),
        ):
            for kind in GRAMMARS:
                self.assertEqual(problem(next_tokens, text, kind), found)
            self.assertEqual(problem(read_model, text), found)
            self.assertEqual(problem(read_signs, TOLD, text), found)
            self.assertEqual(problem(read_row, TOLD, text), found)

    def test_the_returned_list_is_a_new_one(self):
        for text, kind in (("", "model"), ("0", "model"), ("0 | 1 | 2", "model"), ("", "numbers"), ("0 1", "numbers")):
            kept = list(next_tokens(text, kind))
            told = next_tokens(text, kind)
            told.append("more")
            told.reverse()
            self.assertEqual(next_tokens(text, kind), kept)
            next_tokens(text, kind).clear()
            self.assertEqual(next_tokens(text, kind), kept)
        self.assertIs(type(next_tokens("", "model")), list)
        self.assertEqual({type(word) for word in next_tokens("0 | 1 | 2", "model")}, {str})


class TokensThatCannotCome(unittest.TestCase):
    def test_each_token_at_each_place_of_a_model(self):
        cases = [
            ("|", 1, "expected a number"), (",", 1, "expected a number"), ("", 1, "expected a number"),
            ("   ", 4, "expected a number"), ("0 ,", 3, 'expected a number or "|"'), ("0", 2, 'expected a number or "|"'),
            ("0  ", 4, 'expected a number or "|"'), ("0 | |", 5, "expected a number"), ("0 | ,", 5, "expected a number"),
            ("0 |", 4, "expected a number"), ("0 | 1", 6, 'expected a number, "|" or ","'),
            ("0 | 1 , ,", 9, "expected a number"), ("0 | 1 , |", 9, "expected a number"), ("0 | 1 ,", 8, "expected a number"),
            ("0 | 1 | |", 9, "expected a number"), ("0 | 1 | ,", 9, "expected a number"), ("0 | 1 |", 8, "expected a number"),
            ("0 | 1 | 2 |", 11, 'expected a number, "," or the end'), ("0 | 1 | 2 , |", 13, "expected a number"),
            ("0 | 1 | 2 , ,", 13, "expected a number"), ("0 | 1 | 2 ,", 12, "expected a number"),
            ("0 | 1 | 2 , 3 |", 15, 'expected a number, "," or the end'),
        ]
        for text, column, words in cases:
            self.assertEqual(problem(read_model, text), (column, words), text)

    def test_each_token_at_each_place_of_numbers(self):
        for call in (read_signs, read_row):
            for text, column in (("|", 1), (",", 1), ("0 |", 3), ("0,1", 2), ("  1 0 1 , 0 |", 9), ("9 9 |", 5)):
                self.assertEqual(problem(call, TOLD, text), (column, "expected a number or the end"))

    def test_all_texts_that_do_not_follow_the_grammar(self):
        for letters in all_letters(8):
            text, columns = text_of(letters)
            columns.append(len(text) + 1)
            at = first_wrong(letters + "$", "model")
            if at is not None:
                found = (columns[at], expected(able_behind(letters[:at], "model")))
                self.assertEqual(problem(read_model, text), found, text)
            at = first_wrong(letters, "numbers")
            if at is not None:
                self.assertEqual(problem(read_row, TOLD, text), (columns[at], "expected a number or the end"), text)

    def test_they_come_before_the_problems_of_models(self):
        self.assertEqual(problem(read_model, "9 9 9 9 9 |"), (12, "expected a number"))
        self.assertEqual(problem(read_model, "0 | 5 6 7, 8 | 1 2 3 4 |"), (24, 'expected a number, "," or the end'))
        self.assertEqual(problem(read_signs, TOLD, "9 " * 30 + ","), (61, "expected a number or the end"))

    def test_which_error(self):
        for call, arguments in ((next_tokens, ("|", "model")), (read_model, ("|",)), (read_signs, (TOLD, "|"))):
            with self.assertRaises(PastError) as caught:
                call(*arguments)
            self.assertIs(type(caught.exception), TextError)
            self.assertEqual([type(value) for value in vars(caught.exception).values()], [int, str])

    def test_no_newline_anywhere(self):
        for text in ("0 |\n0 | 0", "\n", "0\n"):
            for call, arguments in ((next_tokens, (text, "model")), (read_model, (text,)), (read_row, (TOLD, text))):
                with self.assertRaises(PastError) as caught:
                    call(*arguments)
                self.assertIs(type(caught.exception), BadValue)
                self.assertEqual(caught.exception.name, "text")


if __name__ == "__main__":
    unittest.main()
