"""Points 8, 62, 72 and 81: which argument is told to be wrong, and what is too much, in conditions, delays and counting."""

import unittest

from surepast.conditions import all_conditions, can_win, condition, is_closed_set, origins, with_sign
from surepast.counting import count_open, index_open, nth_open, worst_signs
from surepast.delays import accepts_delay, delay, delay_evidence, undecided
from surepast.errors import PastError, TooLarge
from tests.samples import ALONE, FREE, FULL, LATER, STRANGE, THREE, TOLD, TOO_FULL, TURNS
from tests.wrongs import JUDGED, MODEL, STATES, WrongArguments

SIGNS = STRANGE + [
    0, (), 2, "01", [0, 1], (2,), (-1,), (True,), (0, False), (0, None), ((0,),), (0, 1.0), (0,) * 201, (1,) * 1000,
    (0,) * 199 + (2,), (0,) * 199 + (True,), {0: 0},
]
SHORT_SIGNS = [signs for signs in SIGNS if signs != ()] + [(0,) * 13, (1, 0) * 7, (0,) * 12 + (2,)]
# The model has two states.
CONDITIONS = STRANGE + [
    0, (), (0, 0), ((0, 0),), ((0, 0), (0, 1), (0, 1)), [(0, 0), (0, 1)], ([0, 0], (0, 1)), ((0, 0), [0, 1]), ("00", "01"),
    ((0, 0), None), (None, (0, 1)), ((1, 1), (0, 1)), ((0, 10), (0, 1)), ((10, 0), (0, 1)), ((0, -1), (0, 1)),
    ((-1, -1), (0, 1)), ((1, 2), (1, 0)), ((0,), (0,)), ((0, 0, 0), (0, 1)), ((0, 0, 0), (0, 1, 2)), ((), ()),
    ((0, 0), (0,)), ((0, 0), (0, 0)), ((0, 0), (1, 2)), ((0, 0), (-1, 0)), ((0, 0), (0, 1, 0)), ((0, 0), (0, 1, 1)),
    ((0, True), (0, 1)), ((False, 1), (0, 1)), ((0, 1), (0, True)), ((0, 1), (False, 1)), ((0, None), (0, 1)),
    ((0, "0"), (0, 1)), ((0, 0.0), (0, 1)), ((0, 1), (0.0, 1)), ((0, (0,)), (0, 1)), ((0, 0), (1, (0,))), {0: 0, 1: 1},
]
NUMBERS = STRANGE + [-1, 21, 22, 10 ** 30, "0", (0,), 0.0]
LENGTHS = STRANGE + [-1, 13, 14, 10 ** 30, "0", (0,), 0.0]
# The length is 2, and one tuple of two signs leaves two times open.
OPEN_NUMBERS = STRANGE + [-1, 3, 12, 10 ** 30, "0", (0,), 0.0]
INDEXES = STRANGE + [-1, 1, 2, 10 ** 30, "0", (0,), 0.0]

TURNING = ("model", TURNS, MODEL[2])
HELD = ("condition", ((9, 0), (1, 0)), CONDITIONS)
CALLS = [
    (condition, [MODEL, ("signs", (0, 1) * 100, SIGNS)]),
    (origins, [MODEL, HELD, ("sign", 1, STATES)]),
    (with_sign, [MODEL, HELD, ("sign", 1, STATES)]),
    (can_win, [MODEL, HELD]),
    (all_conditions, [MODEL]),
    (is_closed_set, [MODEL, ("value", ((0, 0), (0, 1)), JUDGED)]),
    (delay, [MODEL]),
    (undecided, [MODEL, ("number", 20, NUMBERS)]),
    (delay_evidence, [MODEL]),
    (accepts_delay, [MODEL, ("value", ("never", (1,), (), (0, 1)), JUDGED)]),
    (count_open, [MODEL, ("length", 12, LENGTHS)]),
    (nth_open, [TURNING, ("length", 2, LENGTHS), ("number", 2, OPEN_NUMBERS), ("index", 0, INDEXES)]),
    (index_open, [MODEL, ("signs", (0, 1) * 6, SHORT_SIGNS)]),
    (worst_signs, [MODEL, ("length", 12, LENGTHS)]),
]


class WrongOnes(WrongArguments, unittest.TestCase):
    calls = CALLS

    def test_signs_are_those_of_this_model(self):
        for call in (condition, index_open):
            self.assertEqual(self.name_of_error(call, (LATER, (1,))), "signs")
            self.assertEqual(self.name_of_error(call, (ALONE, (3,))), "signs")
            call(ALONE, (2,) * 12)

    def test_how_many_signs(self):
        self.assertEqual(self.name_of_error(condition, (THREE, ())), "signs")
        self.assertEqual(self.name_of_error(condition, (THREE, (0,) * 201)), "signs")
        condition(THREE, (0,) * 200)
        condition(THREE, (0,))
        self.assertEqual(self.name_of_error(index_open, (THREE, (0,) * 13)), "signs")
        index_open(THREE, (0,) * 12)
        index_open(THREE, ())

    def test_one_sign_is_that_of_this_model(self):
        for call in (origins, with_sign):
            self.assertEqual(self.name_of_error(call, (LATER, ((1, 0), (0, 1)), 1)), "sign")
            self.assertEqual(self.name_of_error(call, (ALONE, ((0,), (0,)), 3)), "sign")
            call(ALONE, ((0,), (0,)), 2)

    def test_conditions_are_for_the_states_of_this_model(self):
        for call in (origins, with_sign):
            self.assertEqual(self.name_of_error(call, (ALONE, ((0, 0), (0, 1)), 0)), "condition")
            self.assertEqual(self.name_of_error(call, (THREE, ((0, 0), (0, 1)), 0)), "condition")
            self.assertEqual(self.name_of_error(call, (THREE, ((0, 0, 0), (0, 1, 1)), 0)), "condition")
            self.assertEqual(self.name_of_error(call, (THREE, ((1, 2, 3), (0, 1, 2)), 0)), "condition")
            call(THREE, ((9, 0, 9), (2, 0, 1)), 0)
        self.assertEqual(self.name_of_error(can_win, (FREE, ((0, 9, 10), (0, 1, 2)))), "condition")
        self.assertEqual(can_win(FREE, ((0, 9, 9), (1, 0, 2))), (0,))

    def test_numbers_and_lengths_at_their_ends(self):
        for number in (0, 20):
            undecided(TURNS, number)
        for length in (0, 12):
            for call in (count_open, worst_signs):
                call(THREE, length)
            nth_open(TURNS, length, length, 0)
        self.assertEqual(self.name_of_error(undecided, (TURNS, 21)), "number")
        self.assertEqual(self.name_of_error(nth_open, (TURNS, 0, 1, 0)), "number")
        self.assertEqual(self.name_of_error(nth_open, (TURNS, 12, 13, 0)), "number")
        self.assertEqual(self.name_of_error(nth_open, (TURNS, 13, 13, 0)), "length")

    def test_no_index_where_there_are_no_such_signs(self):
        for index in (-1, 0, 1, True, None):
            self.assertEqual(self.name_of_error(nth_open, (LATER, 2, 2, index)), "index")
            self.assertEqual(self.name_of_error(nth_open, (FREE, 12, 1, index)), "index")
        self.assertEqual(nth_open(FREE, 12, 0, 2 ** 12 - 1), (1,) * 12)
        self.assertEqual(self.name_of_error(nth_open, (FREE, 12, 0, 2 ** 12)), "index")

    def test_wrong_arguments_come_before_what_is_too_much(self):
        for model in TOO_FULL:
            for number in (21, -1, True, None, 10 ** 30):
                self.assertEqual(self.name_of_error(undecided, (model, number)), "number")
            for call in (delay, delay_evidence):
                self.assertEqual(self.name_of_error(call, (list(model),)), "model")
            self.assertEqual(self.name_of_error(undecided, (model + (0,), 0)), "model")


class TooMuch(unittest.TestCase):
    def test_more_than_two_thousand(self):
        for model in TOO_FULL:
            for call, more in ((delay, ()), (undecided, (0,)), (undecided, (20,)), (delay_evidence, ())):
                with self.assertRaises(PastError) as caught:
                    call(model, *more)
                self.assertIs(type(caught.exception), TooLarge)
                self.assertEqual(caught.exception.what, "conditions")

    def test_two_thousand(self):
        for model in FULL:
            delay(model)
            undecided(model, 0)
            undecided(model, 20)
            self.assertIs(accepts_delay(model, delay_evidence(model)), True)

    def test_nothing_else_is_too_much(self):
        for model in TOO_FULL:
            conditions = tuple(held for held, _ in all_conditions(model))
            self.assertIs(is_closed_set(model, conditions), True)
            for value in [("within", 0, conditions, ()), ("never", (0,), (), (0, 1))] + JUDGED:
                self.assertIn(repr(accepts_delay(model, value)), ("True", "False"))
            for held in conditions[:3]:
                can_win(model, with_sign(model, held, 0))
                origins(model, held, 1)
            numbers = count_open(model, 12)
            self.assertEqual(index_open(model, worst_signs(model, 12))[1], 0)
            nth_open(model, 12, 0, numbers[0] - 1)
            condition(model, (0, 1) * 100)

    def test_a_model_without_open_ones_has_nothing_too_much(self):
        for model in (FREE, ALONE, TOLD):
            delay(model)
            undecided(model, 20)
            delay_evidence(model)


if __name__ == "__main__":
    unittest.main()
