"""Points 107 to 111: models, signs and rows, read from texts and written as texts."""

import re
import unittest
from random import Random

from surepast.errors import TextError
from surepast.models import is_model
from surepast.reading import read_model, read_row, read_signs
from surepast.scanning import scan
from surepast.writing import model_text, row_text, signs_text
from tests.samples import ALONE, DEAR, DELAYED, FREE, FULL, LATEST, LEAST, MODELS, THREE, TOLD, all_rows, all_signs, long_signs

MANY_STATES = "there are at most 3 states"
NO_STATE = "there is no such state"
MANY_SIGNS = "there are at most 3 signs"
NO_SIGN = "there is no such sign"
NO_COST = "a cost is from 0 to 3"
STATE_MISSING = "a state is missing"
SIGN_MISSING = "a sign is missing"

ALL_MODELS = MODELS + DELAYED + FULL + [LATEST]


def problem(call, *arguments):
    """The column and the words of the error, or None."""
    try:
        call(*arguments)
    except TextError as error:
        return error.column, error.words
    return None


def parts_of(text):
    """The parts of a text that follows the grammar: of each its rows, with their numbers and the column of what closes them.

    A number is a pair of its value and its column.
    """
    parts = [[[[], None]]]
    for kind, characters, column in scan(text):
        if kind == "number":
            parts[-1][-1][0].append((int(characters), column))
        else:
            parts[-1][-1][1] = column
            if characters == ",":
                parts[-1].append([[], None])
            elif characters == "|":
                parts.append([[[], None]])
    return parts


def problems_of_model(text):
    """Point 108, one problem after the other, each wherever it is: (column, number of the problem, words)."""
    (begin, _), *_ = parts_of(text)[0]
    change, show = parts_of(text)[1:]
    states, kinds = len(begin), len(show[0][0])
    found = [(begin[3][1], 1, MANY_STATES)] if states > 3 else []
    found += [(row[0][1], 2, NO_STATE) for part in (change, show) for row, _ in part[states:]]
    found += [(row[states][1], 3, NO_STATE) for row, _ in change if len(row) > states]
    found += [(show[0][0][3][1], 4, MANY_SIGNS)] if kinds > 3 else []
    found += [(row[kinds][1], 5, NO_SIGN) for row, _ in show[1:] if len(row) > kinds]
    rows = [begin] + [row for part in (change, show) for row, _ in part]
    found += [(column, 6, NO_COST) for row in rows for cost, column in row if cost > 3]
    found += [(end, 7, STATE_MISSING) for row, end in change if len(row) < states]
    found += [(end, 8, SIGN_MISSING) for row, end in show if len(row) < kinds]
    return found + [(part[-1][1], 9, STATE_MISSING) for part in (change, show) if len(part) < states]


def spread_out(source, text):
    """The text with other blanks between its tokens, and with needless zeros."""
    words = []
    for token in re.findall(r"\d+|[|,]", text):
        zeros = "0" * source.randint(0, 6 - len(token)) if token.isdigit() and source.random() < 0.4 else ""
        words.append(zeros + token)
    spread = " " * source.randint(0, 2)
    for before, word in zip([""] + words, words):
        least = 1 if before.isdigit() and word.isdigit() else 0
        spread += " " * source.randint(least, 3) + word
    return spread + " " * source.randint(0, 2)


class Models(unittest.TestCase):
    def test_of_each_size(self):
        texts = {
            "0 | 0 | 0": LEAST,
            "2 | 1 | 0 3 1": ALONE,
            "0 1 3 | 0 1 2, 3 0 1, 2 2 1 | 0 1 3, 2 3 0, 1 0 2": THREE,
            "0 0 0 | 0 0 0, 0 0 0, 0 0 0 | 0 0, 0 0, 0 0": FREE,
            "3 3 3 | 3 3 3, 3 3 3, 3 3 3 | 3 3, 3 3, 3 3": DEAR,
        }
        for text, model in texts.items():
            self.assertEqual(read_model(text), model)
            self.assertEqual(model_text(model), text)

    def test_written_and_read_again(self):
        for model in ALL_MODELS:
            text = model_text(model)
            self.assertLessEqual(len(text), 400)
            self.assertEqual(read_model(text), model)
            self.assertEqual(model_text(read_model(text)), text)

    def test_each_number_of_states_and_signs(self):
        for states in (1, 2, 3):
            for kinds in (1, 2, 3):
                model = ((0,) * states, ((1,) * states,) * states, ((2,) * kinds,) * states)
                self.assertEqual(read_model(model_text(model)), model)

    def test_blanks_and_needless_zeros(self):
        source = Random(111)
        for model in ALL_MODELS:
            for _ in range(5):
                text = spread_out(source, model_text(model))
                self.assertEqual(read_model(text), model, text)

    def test_without_blanks_and_with_many(self):
        self.assertEqual(read_model("0 2|0 1,1 0|0 2,2 0"), TOLD)
        self.assertEqual(read_model("   0   2   |   0   1   ,   1   0   |   0   2   ,   2   0   "), TOLD)
        self.assertEqual(read_model("000000|000000|000000" + " " * 380), LEAST)

    def test_kinds_of_what_is_returned(self):
        told = read_model("0 2 | 0 1, 1 0 | 0 2, 2 0")
        self.assertIs(is_model(told), True)
        self.assertEqual([type(part) for part in (told, *told, *told[1], *told[2])], [tuple] * 8)
        self.assertIs(type(model_text(told)), str)


class ProblemsOfModels(unittest.TestCase):
    def assert_problem(self, text, column, words):
        self.assertEqual(problem(read_model, text), (column, words), text)

    def test_a_fourth_begin_cost(self):
        self.assert_problem("0 0 0 0 | 0 | 0", 7, MANY_STATES)
        self.assert_problem("0 0 0  00 0 | 0 | 0", 8, MANY_STATES)
        self.assert_problem("0 0 0 4 | 0 | 0", 7, MANY_STATES)
        self.assert_problem("1 2 3 999999 | 0 | 0", 7, MANY_STATES)

    def test_a_row_too_many(self):
        self.assert_problem("0 | 0, 0 | 0", 8, NO_STATE)
        self.assert_problem("0 | 0 | 0, 0", 12, NO_STATE)
        self.assert_problem("0 | 0 | 0 1, 7 0 9", 14, NO_STATE)
        self.assert_problem("0 0 | 0 0, 0 0,  9 | 0, 0", 18, NO_STATE)
        self.assert_problem("0 0 | 0 0, 0 0 | 0, 0, 9", 24, NO_STATE)

    def test_a_number_too_many_in_a_row_of_the_change_costs(self):
        self.assert_problem("0 | 0 0 | 0", 7, NO_STATE)
        self.assert_problem("0 | 0 9 | 0", 7, NO_STATE)
        self.assert_problem("0 0 | 0 0 0, 0 0 | 0, 0", 11, NO_STATE)
        self.assert_problem("0 0 | 0 0, 0 0 0 | 0, 0", 16, NO_STATE)
        self.assert_problem("0 0 0 | 0 0 0 0, 0 | 0", 15, NO_STATE)

    def test_a_fourth_show_cost_in_the_first_row(self):
        self.assert_problem("0 | 0 | 0 0 0 0", 15, MANY_SIGNS)
        self.assert_problem("0 | 0 | 0 0 0 4", 15, MANY_SIGNS)
        self.assert_problem("0 0 | 0 0, 0 0 | 0 1 2 3, 0 1 2 3", 24, MANY_SIGNS)

    def test_a_number_too_many_in_a_further_row_of_the_show_costs(self):
        self.assert_problem("0 0 | 0 0, 0 0 | 0, 0 0", 23, NO_SIGN)
        self.assert_problem("0 0 | 0 0, 0 0 | 0 0 0, 0 0 0 9", 31, NO_SIGN)
        self.assert_problem("0 0 0 | 0 0 0, 0 0 0, 0 0 0 | 0 0, 0 0, 0 0 0 0", 45, NO_SIGN)

    def test_a_number_that_is_no_cost(self):
        for number in ("4", "9", "10", "0004", "000010", "999999", "100000"):
            self.assert_problem(number + " | 0 | 0", 1, NO_COST)
            self.assert_problem("0 | " + number + " | 0", 5, NO_COST)
            self.assert_problem("0 | 0 | " + number, 9, NO_COST)
            self.assert_problem("0 0 | 0 0, 0 " + number + " | 0, 0", 14, NO_COST)
            self.assert_problem("0 0 | 0 0, 0 0 | 0, " + number, 21, NO_COST)

    def test_a_short_row_of_the_change_costs(self):
        self.assert_problem("0 0 | 0, 0 0 | 0, 0", 8, STATE_MISSING)
        self.assert_problem("0 0 | 0 0, 0 | 0, 0", 14, STATE_MISSING)
        self.assert_problem("0 0 0 | 0 0  , 0 | 0", 14, STATE_MISSING)
        self.assert_problem("0 2 | 0 1 | 0, 1", 11, STATE_MISSING)

    def test_a_short_row_of_the_show_costs(self):
        self.assert_problem("0 0 | 0 0, 0 0 | 0 0, 0", 24, SIGN_MISSING)
        self.assert_problem("0 0 | 0 0, 0 0 | 0 0, 0   ", 27, SIGN_MISSING)
        self.assert_problem("0 0 0 | 0 0 0, 0 0 0, 0 0 0 | 0 0, 0, 0 0", 37, SIGN_MISSING)
        # Rows are missing there, too.
        self.assert_problem("0 0 0 | 0 0 0, 0 0 0, 0 0 0 | 0 0, 0", 37, SIGN_MISSING)

    def test_too_few_rows(self):
        self.assert_problem("0 0 | 0 0 | 0, 0", 11, STATE_MISSING)
        self.assert_problem("0 0 0 | 0 0 0, 0 0 0  | 0", 23, STATE_MISSING)
        self.assert_problem("0 0 | 0 0, 0 0 | 0 1", 21, STATE_MISSING)
        self.assert_problem("0 0 | 0 0, 0 0 | 0 1   ", 24, STATE_MISSING)
        self.assert_problem("0 0 0 | 0 0 0, 0 0 0, 0 0 0 | 0, 0", 35, STATE_MISSING)

    def test_the_first_one_from_the_left(self):
        self.assert_problem("0 5 0 0 | 0 0 | 0", 3, NO_COST)
        self.assert_problem("0 0 | 0 | 7", 9, STATE_MISSING)
        self.assert_problem("0 0 | 0, 5 5 5 | 7", 8, STATE_MISSING)
        self.assert_problem("0 | 0 4, 0 | 4", 7, NO_STATE)
        self.assert_problem("0 | 4 0, 0 | 4", 5, NO_COST)
        self.assert_problem("0 0 | 0 0, 0 0 | 0, 5 0", 21, NO_COST)
        self.assert_problem("0 0 | 0 0, 0 0 | 0 0 0 0 0, 5", 24, MANY_SIGNS)
        self.assert_problem("0 | 0, | 0", 8, "expected a number")

    def changed(self, source, text):
        """The text with one to three of its tokens left out, put in or changed."""
        tokens = re.findall(r"\d+|[|,]", text)
        for _ in range(source.choice((1, 1, 2, 3))):
            at = source.randrange(len(tokens))
            new = source.choice("0 1 2 3 3 4 5 10 0003 ,".split())
            tokens[at:at + source.randint(0, 1)] = source.choice(([new], [new], []))
        return " " * source.randint(0, 1) + " ".join(tokens) + " " * source.randint(0, 2)

    def test_against_all_problems_at_once(self):
        source = Random(108)
        told_of = dict.fromkeys(range(1, 10), 0)
        right = 0
        for _ in range(12000):
            text = self.changed(source, model_text(source.choice(ALL_MODELS)))
            if not re.fullmatch(r"n+\|n+(,n+)*\|n+(,n+)*", re.sub(r"\d+", "n", text).replace(" ", "")):
                continue
            found = min(problems_of_model(text), default=None)
            self.assertEqual(problem(read_model, text), found and (found[0], found[2]), text)
            if found is None:
                right += 1
                self.assertIs(is_model(read_model(text)), True)
            else:
                told_of[found[1]] += 1
        self.assertGreater(min(told_of.values()), 10, told_of)
        self.assertGreater(right, 300)


class SignsAndRows(unittest.TestCase):
    def test_written_and_read_again(self):
        for model in ALL_MODELS:
            long, rows = long_signs(model, 107)
            for signs in list(all_signs(model, 2)) + [long, long[:7]]:
                self.assertEqual(read_signs(model, signs_text(model, signs)), signs)
            for row in all_rows(model, (0, 0)) + rows + [()]:
                self.assertEqual(read_row(model, row_text(model, row)), row)

    def test_texts(self):
        self.assertEqual(signs_text(THREE, (0, 2, 1, 1)), "0 2 1 1")
        self.assertEqual(row_text(THREE, (2, 0)), "2 0")
        for model in ALL_MODELS:
            self.assertEqual((signs_text(model, ()), row_text(model, ())), ("", ""))
            self.assertEqual(signs_text(model, (0,)), "0")
            self.assertEqual(row_text(model, (0,) * 20), "0" + " 0" * 19)

    def test_no_numbers(self):
        for text in ("", " ", "     ", " " * 400):
            self.assertEqual(read_signs(TOLD, text), ())
            self.assertEqual(read_row(TOLD, text), ())

    def test_blanks_and_needless_zeros(self):
        source = Random(110)
        for model in ALL_MODELS:
            signs, rows = long_signs(model, 112)
            self.assertEqual(read_signs(model, spread_out(source, signs_text(model, signs))), signs)
            self.assertEqual(read_row(model, spread_out(source, row_text(model, rows[0]))), rows[0])
        self.assertEqual(read_signs(TOLD, "  000001  0    01 "), (1, 0, 1))
        self.assertEqual(read_row(TOLD, "000000"), (0,))

    def test_signs_and_states_are_told_apart(self):
        self.assertEqual(read_signs(ALONE, "2 1 0"), (2, 1, 0))
        self.assertEqual(problem(read_row, ALONE, "0 1"), (3, NO_STATE))
        self.assertEqual(read_row(FREE, "2 1 0"), (2, 1, 0))
        self.assertEqual(problem(read_signs, FREE, "1 2"), (3, NO_SIGN))

    def test_no_such_one(self):
        for number in ("2", "3", "10", "0002", "999999"):
            for call, words in ((read_signs, NO_SIGN), (read_row, NO_STATE)):
                self.assertEqual(problem(call, TOLD, number), (1, words))
                self.assertEqual(problem(call, TOLD, " 0 1 " + number + " 5"), (6, words))
                self.assertEqual(problem(call, TOLD, "1 " * 19 + number), (39, words))

    def test_twenty_and_twenty_one(self):
        for call, words in ((read_signs, "there are at most 20 signs"), (read_row, "there are at most 20 states")):
            self.assertEqual(call(TOLD, "1 " * 20), (1,) * 20)
            self.assertEqual(problem(call, TOLD, "1 " * 21), (41, words))
            self.assertEqual(problem(call, TOLD, "1 " * 200), (41, words))
            self.assertEqual(problem(call, TOLD, "1 " * 20 + "   9"), (44, words))
            self.assertEqual(problem(call, LEAST, "0 " * 20 + "1 1"), (41, words))

    def test_the_first_one_from_the_left(self):
        self.assertEqual(problem(read_signs, TOLD, "0 5 " + "1 " * 30), (3, NO_SIGN))
        self.assertEqual(problem(read_row, TOLD, "0 5 7"), (3, NO_STATE))
        self.assertEqual(problem(read_row, TOLD, "1 " * 20 + "1 5"), (41, "there are at most 20 states"))

    def test_kinds_of_what_is_returned(self):
        for told in (read_signs(TOLD, "0 1"), read_row(TOLD, "0 1")):
            self.assertEqual([type(part) for part in (told, *told)], [tuple, int, int])
        self.assertIs(type(signs_text(TOLD, (0, 1))), str)


if __name__ == "__main__":
    unittest.main()
