"""Points 21 to 24: floors, and the evidence that a row is the best one."""

import unittest
from itertools import product
from random import Random

from surepast.best import accepts_best, best_row, told_floors
from tests.samples import (
    DEAR, FREE, LATER, LEAST, MODELS, STRANGE, THREE, TOLD, TURNS, all_rows, all_signs, long_signs, plain_cost,
    plain_to_go,
)


def some_signs(model, most=2):
    return list(all_signs(model, most)) + [long_signs(model, 5)[0][:4], long_signs(model, 6)[0]]


def are_right(model, signs, floors):
    """Point 22, word by word."""
    begin, change, show = model
    states = range(len(begin))
    for time, floor in enumerate(floors):
        for state in states:
            if time == len(signs) - 1:
                if floor[state] > 0:
                    return False
            else:
                for later in states:
                    if floor[state] > change[state][later] + show[later][signs[time + 1]] + floors[time + 1][later]:
                        return False
    return True


def turn(model, signs, row, floors, time, state):
    """Point 23, word by word."""
    before = plain_cost(model, signs[:time], row[:time])
    come = model[1][row[time - 1]][state] if time else model[0][state]
    return before + come + model[2][state][signs[time]] + floors[time][state]


def is_evidence(model, signs, row, floors):
    """Point 24, word by word."""
    cost = plain_cost(model, signs, row)
    for time in range(len(signs)):
        for state in range(len(model[0])):
            here = turn(model, signs, row, floors, time, state)
            if here < cost or (here == cost and state < row[time]):
                return False
    return are_right(model, signs, floors)


def put(floors, time, state, number):
    """The floors with this number at the time and the state."""
    floor = floors[time][:state] + (number,) + floors[time][state + 1:]
    return floors[:time] + (floor,) + floors[time + 1:]


def places(model, signs):
    return list(product(range(len(signs)), range(len(model[0]))))


class Floors(unittest.TestCase):
    def test_against_all_rows_of_further_states(self):
        for model in MODELS:
            for signs in all_signs(model, 4 if len(model[0]) < 3 else 3):
                told = tuple(
                    tuple(plain_to_go(model, state, signs[time + 1:]) for state in range(len(model[0])))
                    for time in range(len(signs))
                )
                self.assertEqual(told_floors(model, signs), told)

    def test_twenty_signs(self):
        for model in MODELS:
            signs = long_signs(model, 3)[0]
            floors = told_floors(model, signs)
            self.assertEqual(floors[19], (0,) * len(model[0]))
            for time in range(19):
                for state, number in enumerate(floors[time]):
                    rest = [
                        model[1][state][later] + model[2][later][signs[time + 1]] + more
                        for later, more in enumerate(floors[time + 1])
                    ]
                    self.assertEqual(number, min(rest))

    def test_it_is_not_less_the_least(self):
        self.assertEqual(told_floors(DEAR, (0, 0, 0)), ((12,) * 3, (6,) * 3, (0,) * 3))
        self.assertEqual(told_floors(LATER, (0, 0)), ((0, 1), (0, 0)))

    def test_no_signs(self):
        for model in MODELS:
            self.assertEqual(told_floors(model, ()), ())

    def test_all_are_tuples_of_integers(self):
        for model in MODELS:
            floors = told_floors(model, (0, 0, 0))
            self.assertIs(type(floors), tuple)
            for floor in floors:
                self.assertIs(type(floor), tuple)
                self.assertEqual({type(number) for number in floor}, {int})


class Evidence(unittest.TestCase):
    def test_the_told_floors_for_the_best_row(self):
        for model in MODELS:
            for signs in list(all_signs(model, 3)) + [long_signs(model, seed)[0] for seed in range(5)]:
                floors = told_floors(model, signs)
                self.assertIs(accepts_best(model, signs, best_row(model, signs)[0], floors), True)

    def test_no_signs(self):
        for model in MODELS:
            self.assertIs(accepts_best(model, (), (), ()), True)
            for value in STRANGE + [0, 1, ((0,),), (0,)]:
                self.assertIs(accepts_best(model, (), (), value), value == ())

    def test_for_no_other_row(self):
        for model in MODELS:
            for signs in all_signs(model, 3):
                floors = told_floors(model, signs)
                best = best_row(model, signs)[0]
                for row in all_rows(model, signs):
                    self.assertIs(accepts_best(model, signs, row, floors), row == best)

    def test_for_no_other_row_of_twenty_states(self):
        for model in MODELS:
            signs, rows = long_signs(model, 8)
            floors = told_floors(model, signs)
            best = best_row(model, signs)[0]
            for row in rows + [best[:19] + (state,) for state in range(len(model[0]))]:
                self.assertIs(accepts_best(model, signs, row, floors), row == best)

    def test_all_floors_with_small_numbers(self):
        accepted = 0
        cases = [(LATER, (0,)), (LATER, (0, 0)), (TURNS, (1,)), (TURNS, (1, 0)), (TOLD, (0, 1))]
        for model, signs in cases:
            best = best_row(model, signs)[0]
            for numbers in product(range(-2, 3), repeat=2 * len(signs)):
                floors = tuple(numbers[at:at + 2] for at in range(0, len(numbers), 2))
                for row in all_rows(model, signs):
                    told = accepts_best(model, signs, row, floors)
                    self.assertIs(told, is_evidence(model, signs, row, floors))
                    self.assertTrue(row == best or not told)
                    accepted += told
        self.assertGreater(accepted, len(cases))

    def test_a_number_too_great_by_one(self):
        for model in MODELS:
            for signs in some_signs(model):
                best, floors = best_row(model, signs)[0], told_floors(model, signs)
                for time, state in places(model, signs):
                    wrong = put(floors, time, state, floors[time][state] + 1)
                    self.assertIs(accepts_best(model, signs, best, wrong), False)

    def test_the_last_ones_above_nought(self):
        for model in (TOLD, TURNS, THREE, LEAST):
            for signs in some_signs(model):
                if signs:
                    best, floors = best_row(model, signs)[0], told_floors(model, signs)
                    for number in (1, 2, 10 ** 30):
                        wrong = floors[:-1] + ((number,) * len(model[0]),)
                        self.assertIs(accepts_best(model, signs, best, wrong), False)

    def test_numbers_made_less(self):
        kept = 0
        for model in MODELS:
            for signs in some_signs(model):
                best, floors = best_row(model, signs)[0], told_floors(model, signs)
                for time, state in places(model, signs):
                    for less in (1, 2, 3):
                        value = put(floors, time, state, floors[time][state] - less)
                        told = accepts_best(model, signs, best, value)
                        self.assertIs(told, is_evidence(model, signs, best, value))
                        self.assertFalse(told and state == best[time])
                        kept += told
        self.assertGreater(kept, 100)

    def test_numbers_far_below_nought(self):
        for model in (TOLD, TURNS, THREE, FREE):
            for signs in some_signs(model):
                best, floors = best_row(model, signs)[0], told_floors(model, signs)
                for time, state in places(model, signs):
                    for number in (-1000, -(10 ** 30)):
                        value = put(floors, time, state, number)
                        self.assertIs(accepts_best(model, signs, best, value), False)

    def test_floors_changed_anyhow(self):
        source = Random(24)
        told_of = {True: 0, False: 0}
        for model in MODELS:
            for signs in [signs for signs in some_signs(model) if signs]:
                for _ in range(20):
                    floors = told_floors(model, signs)
                    for _ in range(source.randint(1, 3)):
                        time, state = source.choice(places(model, signs))
                        floors = put(floors, time, state, floors[time][state] + source.choice((-3, -2, -1, -1, 1)))
                    row = best_row(model, signs)[0]
                    told = accepts_best(model, signs, row, floors)
                    self.assertIs(told, is_evidence(model, signs, row, floors))
                    told_of[told] += 1
        self.assertGreater(min(told_of.values()), 50)

    def test_an_equal_turn_to_a_lesser_state(self):
        # Both rows cost 1, and with these floors each turn from the second one costs as much.
        floors = ((0, 1), (0, 0))
        self.assertIs(accepts_best(TURNS, (1, 0), (0, 0), floors), True)
        self.assertIs(accepts_best(TURNS, (1, 0), (1, 1), floors), False)
        self.assertIs(accepts_best(FREE, (0,), (0,), ((0, 0, 0),)), True)
        self.assertIs(accepts_best(FREE, (0,), (1,), ((0, 0, 0),)), False)


class OtherForms(unittest.TestCase):
    def values(self, floors):
        first = floors[0]
        wrong = STRANGE + [
            (), floors[:-1], floors + floors[-1:], floors * 2, list(floors), dict(enumerate(floors)), (floors,), 0, -1,
            (list(first),) + floors[1:], (first[:-1],) + floors[1:], (first + (0,),) + floors[1:], ((),) + floors[1:],
            floors[:-1] + (None,), floors[:-1] + (0,), floors[:-1] + ("00",), floors[:-1] + ([0, 0],), "00",
        ]
        for item in (True, False, None, "0", (), (0,), [0], 0.0, -0.5, object()):
            wrong += [put(floors, time, state, item) for time in range(len(floors)) for state in (0, 1)]
        return wrong

    def test_they_are_false(self):
        for model, signs in ((TOLD, (0, 1)), (TURNS, (1, 0)), (LATER, (0, 0)), (TURNS, (0,))):
            floors = told_floors(model, signs)
            for row in all_rows(model, signs):
                for value in self.values(floors):
                    self.assertIs(accepts_best(model, signs, row, value), False, value)

    def test_false_and_true_are_no_integers(self):
        # As numbers, these would be right.
        self.assertIs(accepts_best(FREE, (0,), (0,), ((0, 0, 0),)), True)
        self.assertIs(accepts_best(FREE, (0,), (0,), ((False, False, False),)), False)
        self.assertIs(accepts_best(LATER, (0, 0), (0, 1), ((0, 1), (0, 0))), True)
        self.assertIs(accepts_best(LATER, (0, 0), (0, 1), ((0, True), (0, 0))), False)


if __name__ == "__main__":
    unittest.main()
