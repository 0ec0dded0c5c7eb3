"""Points 8, 28, 39 and 51: which argument is told to be wrong, in the modules of rows, futures and what is sure."""

import unittest

from surepast.best import accepts_best, best_row, ending_row, told_floors
from surepast.futures import first_signs, is_closed, profile, profiles, spread, with_ahead
from surepast.sure import accepts_sure, decided_by, sure_states, survivors
from surepast.waiting import accepts_open, open_time, told_signs
from tests.samples import ALONE, LATER, LEAST, STRANGE, THREE, TOLD, TURNS
from tests.wrongs import JUDGED, MODEL, ROWS, SIGNS, STATES, WrongArguments

NUMBERS = STRANGE + [
    0, (), (0,), (0, 0, 0), [0, 0], "00", (0, None), (None, 0), (True, 0), (0, False), (0, "0"), (0, 0.0), ((0,), (0,)),
    (-1001, 0), (0, -1001), (1001, 0), (0, 1001), (10 ** 30, 0), (0, -(10 ** 30)), {0: 0, 1: 0},
]
# None of these is a closed table of the model.
TABLES = STRANGE + [
    0, (), (0, 0), ((0, 0),), ((0, 1), (1, 0)), ((0, 0), (0, 1)), ((0, 0), (1, 0)), ((0, 0), (1, 0), (0, 1)),
    [(0, 0), (0, 1), (1, 0)], ((0, 0), (0, 1), [1, 0]), ((0, 0), (0, 1), (1, 0), (1, 0)), ((0, 0), (0, 0), (0, 1), (1, 0)),
    ((0, 0), (0, 1), (0, 10), (1, 0)), ((0, -1), (0, 0), (0, 1), (1, 0)), ((0, 0), (0, True), (1, 0)), ((0,), (1,)),
    ((0, 0), (0, 1), (1, 0), (1, 0, 0)), ((0, 0), (0, 1), (1, 0), None), tuple((0, number) for number in range(65)),
]
TIMES = STRANGE + [-1, 2, 3, 20, 10 ** 30, "0", (0,), 0.0]
MANIES = STRANGE + [-1, 3, 4, 20, 10 ** 30, "0", (0,), 0.0, 2.0]

TWO = ("signs", (0, 1), SIGNS)
TABLE = ((0, 0), (0, 1), (1, 0))
CALLS = [
    (best_row, [MODEL, TWO]),
    (ending_row, [MODEL, ("signs", (0, 1), SIGNS + [()]), ("state", 1, STATES)]),
    (told_floors, [MODEL, TWO]),
    (accepts_best, [MODEL, TWO, ("row", (0, 1), ROWS), ("value", ((0, 1), (0, 0)), JUDGED)]),
    (profile, [MODEL, TWO]),
    (with_ahead, [MODEL, ("sign", 1, STATES), ("numbers", (-1000, 1000), NUMBERS)]),
    (profiles, [MODEL]),
    (first_signs, [MODEL]),
    (is_closed, [MODEL, ("value", TABLE, JUDGED)]),
    (spread, [MODEL]),
    (decided_by, [MODEL, TWO, ("table", TABLE, TABLES)]),
    (sure_states, [MODEL, TWO]),
    (survivors, [MODEL, TWO]),
    (accepts_sure, [MODEL, TWO, ("many", 2, MANIES), ("value", TABLE, JUDGED)]),
    (open_time, [MODEL, TWO]),
    (told_signs, [MODEL, TWO]),
    (accepts_open, [MODEL, TWO, ("time", 1, TIMES), ("value", ((0,), ()), JUDGED)]),
]


class WrongOnes(WrongArguments, unittest.TestCase):
    calls = CALLS

    def test_signs_are_those_of_this_model(self):
        for call in (best_row, told_floors, profile, sure_states, survivors, open_time, told_signs):
            self.assertEqual(self.name_of_error(call, (LATER, (1,))), "signs")
            self.assertEqual(self.name_of_error(call, (ALONE, (3,))), "signs")
            self.assertEqual(self.name_of_error(call, (THREE, (0,) * 21)), "signs")
            call(ALONE, (2,) * 20)
            call(THREE, ())

    def test_signs_of_an_ending_row(self):
        self.assertEqual(self.name_of_error(ending_row, (TOLD, (), 0)), "signs")
        self.assertEqual(self.name_of_error(ending_row, (TOLD, (), 5)), "signs")
        self.assertEqual(self.name_of_error(ending_row, (None, (), 5)), "model")
        self.assertEqual(self.name_of_error(ending_row, (THREE, (0,) * 21, 0)), "signs")
        self.assertEqual(ending_row(LEAST, (0,) * 20, 0), ((0,) * 20, 0))

    def test_states_are_those_of_this_model(self):
        self.assertEqual(self.name_of_error(ending_row, (ALONE, (2,), 1)), "state")
        self.assertEqual(self.name_of_error(ending_row, (THREE, (2,), 3)), "state")
        self.assertEqual(ending_row(LATER, (0,), 1)[0], (1,))

    def test_one_sign_is_that_of_this_model(self):
        self.assertEqual(self.name_of_error(with_ahead, (LATER, 1, (0, 0))), "sign")
        self.assertEqual(self.name_of_error(with_ahead, (ALONE, 3, (0,))), "sign")
        self.assertEqual(with_ahead(ALONE, 2, (7,)), (0,))

    def test_numbers_are_for_the_states_of_this_model(self):
        for model, numbers in ((ALONE, (0, 0)), (ALONE, ()), (THREE, (0, 0)), (THREE, (0,) * 4), (LATER, (0,))):
            self.assertEqual(self.name_of_error(with_ahead, (model, 0, numbers)), "numbers")
        for number in (-1000, 1000):
            with_ahead(THREE, 0, (0, number, 0))
            with_ahead(ALONE, 0, (number,))
        for number in (-1001, 1001):
            self.assertEqual(self.name_of_error(with_ahead, (THREE, 0, (0, number, 0))), "numbers")
            self.assertEqual(self.name_of_error(with_ahead, (ALONE, 0, (number,))), "numbers")

    def test_tables_are_closed_in_this_model(self):
        self.assertEqual(self.name_of_error(decided_by, (LATER, (), ((0, 0),))), "table")
        self.assertEqual(self.name_of_error(decided_by, (ALONE, (), ((0, 0),))), "table")
        self.assertEqual(self.name_of_error(decided_by, (TURNS, (), ())), "table")
        self.assertEqual(self.name_of_error(decided_by, (THREE, (2, 1), TABLE)), "table")

    def test_times_are_indexes_of_the_signs(self):
        for time in (0, -1, 1, True, None):
            self.assertEqual(self.name_of_error(accepts_open, (TURNS, (), time, ((0,), ()))), "time")
        self.assertEqual(self.name_of_error(accepts_open, (TURNS, (1,), 1, ((0,), ()))), "time")
        self.assertEqual(self.name_of_error(accepts_open, (TURNS, (1,) * 20, 20, ((0,), ()))), "time")
        self.assertIs(accepts_open(TURNS, (1,) * 20, 19, ((0,), ())), False)

    def test_many_is_at_most_the_number_of_the_signs(self):
        self.assertEqual(self.name_of_error(accepts_sure, (TURNS, (), 1, TABLE)), "many")
        self.assertEqual(self.name_of_error(accepts_sure, (TURNS, (1,) * 20, 21, TABLE)), "many")
        self.assertIs(accepts_sure(TURNS, (), 0, TABLE), True)
        self.assertIs(accepts_sure(TURNS, (1,) * 20, 20, TABLE), True)

    def test_rows_are_for_the_signs(self):
        self.assertEqual(self.name_of_error(accepts_best, (TOLD, (), (0,), ())), "row")
        self.assertEqual(self.name_of_error(accepts_best, (TOLD, (0,), (), ())), "row")
        self.assertEqual(self.name_of_error(accepts_best, (ALONE, (2,), (1,), ((0,),))), "row")
        self.assertEqual(self.name_of_error(accepts_best, (THREE, (2,) * 20, (1,) * 19, None)), "row")


if __name__ == "__main__":
    unittest.main()
