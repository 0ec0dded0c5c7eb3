"""Points 8 and 17: the errors, and which one comes first."""

import copy
import unittest

from surepast.errors import BadValue, NotPossible, PastError, TextError, TooLarge
from surepast.made import raised, renamed, without
from surepast.models import cost_of, is_better, steps
from tests.samples import ALONE, DEAR, LEAST, STRANGE, THREE, TOLD
from tests.wrongs import MODEL, ROWS, SIGNS, STATES, WrongArguments

BELOW = (BadValue, TooLarge, NotPossible, TextError)

PARTS = STRANGE + [0, 1, 2, "Begin", "BEGIN", "begin ", " show", "changes", "sho", "signs", ("begin",), ["show"], b"show"]
NUMBERS = STRANGE + [-4, 4, 5, -100, 10 ** 30, "1", (1,), 0.0, 2.5]
# The model has two states.
ORDERS = STRANGE + [
    0, 1, (), (0,), (1,), (0, 0), (1, 1), (0, 2), (1, 2), (-1, 0), (0, -1), (0, 1, 2), (0, 1, 1), (0, 1, 0), [0, 1], "01",
    (False, True), (0, True), (False, 1), (True, 0), (None, 0), ("0", "1"), (0.0, 1.0), ((0,), (1,)), {0: 0, 1: 1},
]

CALLS = [
    (cost_of, [MODEL, ("signs", (0, 1), SIGNS), ("row", (0, 1), ROWS)]),
    (steps, [MODEL, ("signs", (0, 1), SIGNS), ("row", (0, 1), ROWS)]),
    (is_better, [MODEL, ("signs", (0, 1), SIGNS), ("row", (0, 1), ROWS), ("other", (1, 1), ROWS)]),
    (raised, [MODEL, ("part", "begin", PARTS), ("number", 1, NUMBERS)]),
    (renamed, [MODEL, ("order", (1, 0), ORDERS)]),
    (without, [MODEL, ("state", 1, STATES)]),
]


class Classes(unittest.TestCase):
    def test_which_is_below_which(self):
        self.assertTrue(issubclass(PastError, ValueError))
        for error in BELOW:
            self.assertTrue(issubclass(error, PastError))
            self.assertEqual([other for other in BELOW if issubclass(error, other)], [error])

    def test_attributes(self):
        self.assertEqual(BadValue("model").name, "model")
        self.assertEqual(TooLarge("costs").what, "costs")
        self.assertEqual(NotPossible("alone").why, "alone")
        error = TextError(11, "a state is missing")
        self.assertEqual((error.column, error.words), (11, "a state is missing"))

    def test_each_object_has_its_own(self):
        first, second = TextError(1, "one"), TextError(2, "two")
        self.assertEqual((first.column, first.words, second.column, second.words), (1, "one", 2, "two"))
        one, other = BadValue("row"), BadValue("other")
        self.assertEqual((one.name, other.name), ("row", "other"))

    def test_a_copy_has_them_too(self):
        for error in (BadValue("row"), TooLarge("costs"), NotPossible("alone"), TextError(3, "words")):
            self.assertEqual(vars(copy.copy(error)), vars(error))

    def test_they_are_caught_as_value_errors(self):
        for error in (PastError("it"), BadValue("it"), TooLarge("it"), NotPossible("it"), TextError(1, "it")):
            with self.assertRaises(ValueError):
                raise error


class WrongOnes(WrongArguments, unittest.TestCase):
    calls = CALLS

    def test_rows_are_for_the_signs_and_states_of_this_model(self):
        for call in (cost_of, steps):
            self.assertEqual(self.name_of_error(call, (TOLD, (), (0,))), "row")
            self.assertEqual(self.name_of_error(call, (TOLD, (0,), ())), "row")
            self.assertEqual(self.name_of_error(call, (ALONE, (2,), (1,))), "row")
            self.assertEqual(self.name_of_error(call, (THREE, (0,), (3,))), "row")
            self.assertEqual(self.name_of_error(call, (TOLD, (0,) * 20, (0,) * 19)), "row")
            self.assertEqual(self.name_of_error(call, (TOLD, (0,) * 20, (0,) * 21)), "row")
            self.assertEqual(self.name_of_error(call, (LEAST, (1,), (0,))), "signs")
        self.assertEqual(self.name_of_error(is_better, (TOLD, (), (), (0,))), "other")

    def test_orders_and_states_are_for_this_model(self):
        for order in ((0, 1), (0, 1, 1), (0, 0, 0), (1, 2, 3), (0, 1, 2, 0), (2, 1), (0, 2, 2), (0, 1, 3)):
            self.assertEqual(self.name_of_error(renamed, (THREE, order)), "order")
        for order in ((), (1,), (0, 0), (0, 1), (False,)):
            self.assertEqual(self.name_of_error(renamed, (ALONE, order)), "order")
        self.assertEqual(self.name_of_error(without, (THREE, 3)), "state")

    def test_wrong_arguments_come_before_all_else(self):
        self.assertEqual(self.name_of_error(raised, (DEAR, "show", 4)), "number")
        self.assertEqual(self.name_of_error(raised, (DEAR, "all", 3)), "part")
        self.assertEqual(self.name_of_error(raised, (DEAR[:2], "show", 3)), "model")
        for state in (1, -1, True, False, None):
            self.assertEqual(self.name_of_error(without, (ALONE, state)), "state")

    def test_behind_them_come_the_others(self):
        for part in ("begin", "change", "show"):
            for model, number in ((DEAR, 1), (DEAR, 2), (DEAR, 3), (LEAST, -1), (LEAST, -2), (LEAST, -3)):
                with self.assertRaises(PastError) as caught:
                    raised(model, part, number)
                self.assertIs(type(caught.exception), TooLarge)
                self.assertEqual(caught.exception.what, "costs")
        with self.assertRaises(PastError) as caught:
            without(ALONE, 0)
        self.assertIs(type(caught.exception), NotPossible)
        self.assertEqual(caught.exception.why, "alone")


if __name__ == "__main__":
    unittest.main()
