"""Points 8, 112 and 123: which argument is told to be wrong, in the modules of texts and of watchers."""

import unittest

from surepast.errors import PastError, TextError
from surepast.journals import are_right, replayed
from surepast.reading import next_tokens, read_model, read_row, read_signs
from surepast.scanning import scan
from surepast.watcher import Watcher
from surepast.writing import model_text, row_text, signs_text
from tests.samples import ALONE, FREE, STRANGE, THREE, TOLD, TURNS
from tests.wrongs import JUDGED, MODEL, SIGNS, WrongArguments

# Some of these have problems, too: but no text has a newline or more than 400 characters.
TEXTS = [value for value in STRANGE if not isinstance(value, str)] + [
    0, 7, (), ("0",), ["0 1"], b"0 1", bytearray(b"0"), {"0": 1}, "\n", "0\n", "\n0", "0 |\n0 | 0", "x\n", "0" * 401, " " * 401,
    "0 " * 201, "x" * 401, "|" * 1000, "0 | 0 | 0" + " " * 392,
]
KINDS = [value for value in STRANGE if value != "model"] + [
    0, 1, "Model", "MODEL", "model ", " numbers", "number", "signs", "row", "models", ("model",), ["numbers"], b"model",
]
# The model has two states.
ROWS = STRANGE + [
    0, 1, "01", [0, 1], (2,), (0, 2), (-1,), (True,), (0, False), (0, None), ((0,),), (0, 1.0), (0,) * 21, (1,) * 100, ("0",),
    {0: 1},
]
JOURNALS = STRANGE + [
    0, "see", ("see", 0), ("back",), [("see", 0)], (["see", 0],), (("see",),), (("see", 2),), (("see", -1),), (("see", True),),
    (("back", 0),), (("see", 0), None), (("see", 0), ()), (("see", 0),) * 21, (("back",),) * 21, (("see", 0, 0),), (("Back",),),
]
TWO = ("signs", (0, 1), SIGNS)
CALLS = [
    (scan, [("text", "0 1", TEXTS)]),
    (next_tokens, [("text", "0 1", TEXTS), ("kind", "numbers", KINDS)]),
    (read_model, [("text", "0 | 0 | 0", TEXTS)]),
    (read_signs, [MODEL, ("text", "0 1", TEXTS)]),
    (read_row, [MODEL, ("text", "0 1", TEXTS)]),
    (model_text, [MODEL]),
    (signs_text, [MODEL, TWO]),
    (row_text, [MODEL, ("row", (0, 1), ROWS)]),
    (Watcher, [MODEL]),
    (replayed, [MODEL, ("journal", (("see", 1), ("back",)), JOURNALS)]),
    (are_right, [MODEL, ("value", (), JUDGED)]),
]
# Texts with a problem, of any kind.
BAD_TEXTS = ["x", "1234567", "|", "0 , 1", "0 0 0 0 |", "9", "0 " * 21, ","]


class WrongOnes(WrongArguments, unittest.TestCase):
    calls = CALLS

    def test_wrong_arguments_come_before_problems_of_a_text(self):
        for text in BAD_TEXTS:
            for kind in KINDS:
                self.assertEqual(self.name_of_error(next_tokens, (text, kind)), "kind")
            for model in MODEL[2]:
                for call in (read_signs, read_row):
                    self.assertEqual(self.name_of_error(call, (model, text)), "model")

    def test_behind_them_come_problems_of_a_text(self):
        for text in BAD_TEXTS:
            for call, arguments in ((read_model, (text,)), (read_signs, (TOLD, text)), (read_row, (TOLD, text))):
                with self.assertRaises(PastError) as caught:
                    call(*arguments)
                self.assertIs(type(caught.exception), TextError)
        for text in BAD_TEXTS[:4]:
            for kind in ("model", "numbers"):
                with self.assertRaises(PastError) as caught:
                    next_tokens(text, kind)
                self.assertIs(type(caught.exception), TextError)

    def test_400_characters_and_401(self):
        for call, arguments, text in (
            (read_model, (), "0 | 0 | 0"), (read_signs, (TOLD,), "0 1"), (read_row, (TOLD,), "0 1"), (scan, (), "5"),
        ):
            call(*arguments, text + " " * (400 - len(text)))
            call(*arguments, " " * (400 - len(text)) + text)
            self.assertEqual(self.name_of_error(call, (*arguments, text + " " * (401 - len(text)))), "text")
        next_tokens(" " * 400, "model")
        self.assertEqual(self.name_of_error(next_tokens, (" " * 401, "model")), "text")

    def test_signs_and_rows_of_this_model(self):
        self.assertEqual(self.name_of_error(signs_text, (ALONE, (3,))), "signs")
        self.assertEqual(self.name_of_error(row_text, (ALONE, (1,))), "row")
        self.assertEqual(self.name_of_error(signs_text, (FREE, (2,))), "signs")
        self.assertEqual(self.name_of_error(row_text, (FREE, (3,))), "row")
        self.assertEqual((signs_text(ALONE, (2,)), row_text(FREE, (2,))), ("2", "2"))

    def test_rows_of_no_twenty_and_twenty_one_states(self):
        row_text(THREE, ())
        row_text(THREE, (2,) * 20)
        self.assertEqual(self.name_of_error(row_text, (THREE, (2,) * 21)), "row")

    def test_signs_of_journals_are_those_of_this_model(self):
        self.assertEqual(self.name_of_error(replayed, (ALONE, (("see", 3),))), "journal")
        self.assertEqual(self.name_of_error(replayed, (FREE, (("see", 2),))), "journal")
        replayed(ALONE, (("see", 2),))

    def test_twenty_commands_and_twenty_one(self):
        self.assertEqual(replayed(TURNS, (("see", 1),) * 20).signs(), (1,) * 20)
        self.assertEqual(self.name_of_error(replayed, (TURNS, (("see", 1),) * 21)), "journal")


if __name__ == "__main__":
    unittest.main()
