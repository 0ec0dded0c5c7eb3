"""Points 12, 13, 14 and 17: raised and renamed models, and models without a state."""

import unittest
from itertools import permutations

from surepast.errors import BadValue, NotPossible, TooLarge
from surepast.made import raised, renamed, without
from surepast.models import cost_of, is_better, is_model
from tests.samples import (
    ALONE, DEAR, FREE, LEAST, MODELS, THREE, TOLD, all_rows, all_signs, best_of, long_signs,
)

PARTS = ("begin", "change", "show")


def costs_of_part(model, part):
    begin, change, show = model
    return {"begin": list(begin), "change": sum(change, ()), "show": sum(show, ())}[part]


def fits(model, part, number):
    return all(0 <= cost + number <= 3 for cost in costs_of_part(model, part))


def times(part, many):
    """How many times the costs of a row for so many signs have a cost of this part."""
    if many == 0:
        return 0
    return {"begin": 1, "change": many - 1, "show": many}[part]


def some_cases(model):
    cases = [(signs, all_rows(model, signs)) for signs in all_signs(model, 3)]
    return cases + [long_signs(model, 7)]


class Raised(unittest.TestCase):
    def test_the_costs_of_the_part_and_no_others(self):
        model = ((0, 1), ((1, 2), (2, 1)), ((2, 3), (3, 2)))
        self.assertEqual(raised(model, "begin", 2), ((2, 3), model[1], model[2]))
        self.assertEqual(raised(model, "change", 1), (model[0], ((2, 3), (3, 2)), model[2]))
        self.assertEqual(raised(model, "change", -1), (model[0], ((0, 1), (1, 0)), model[2]))
        self.assertEqual(raised(model, "show", -2), (model[0], model[1], ((0, 1), (1, 0))))

    def test_from_nothing_to_all_and_back(self):
        for model in (LEAST, FREE):
            for part in PARTS:
                high = raised(model, part, 3)
                self.assertEqual(set(costs_of_part(high, part)), {3})
                self.assertEqual(raised(high, part, -3), model)

    def test_by_each_number(self):
        for model in MODELS:
            for part in PARTS:
                for number in range(-3, 4):
                    if not fits(model, part, number):
                        with self.assertRaises(TooLarge) as caught:
                            raised(model, part, number)
                        self.assertEqual(caught.exception.what, "costs")
                        continue
                    high = raised(model, part, number)
                    self.assertIs(is_model(high), True)
                    for other in PARTS:
                        more = number if other == part else 0
                        expected = [cost + more for cost in costs_of_part(model, other)]
                        self.assertEqual(list(costs_of_part(high, other)), expected)

    def test_one_cost_too_great_or_too_small_is_enough(self):
        for place in range(4):
            one = [1, 1, 1, 1]
            for cost, number in ((3, 1), (2, 2), (0, -1), (0, -2), (1, 3), (2, -3)):
                one[place] = cost
                table = (tuple(one[:2]), tuple(one[2:]))
                for model, part in ((((1, 1), table, ((1,), (1,))), "change"), (((1, 1), ((1, 1),) * 2, table), "show")):
                    with self.assertRaises(TooLarge) as caught:
                        raised(model, part, number)
                    self.assertEqual(caught.exception.what, "costs")
        for begin, number in (((3, 1, 1), 1), ((1, 3, 1), 1), ((1, 1, 3), 1), ((1, 1, 0), -1), ((0, 1, 1), -1)):
            with self.assertRaises(TooLarge):
                raised((begin, ((1,) * 3,) * 3, ((1,),) * 3), "begin", number)

    def test_costs_of_rows(self):
        for model in MODELS:
            for part in PARTS:
                for number in range(-3, 4):
                    if fits(model, part, number):
                        self.check_costs(model, part, number)

    def check_costs(self, model, part, number):
        high = raised(model, part, number)
        for signs, rows in some_cases(model):
            more = number * times(part, len(signs))
            for row in rows:
                self.assertEqual(cost_of(high, signs, row), cost_of(model, signs, row) + more)

    def test_the_same_rows_are_better(self):
        for model in MODELS[:12]:
            for part in PARTS:
                for number in (-2, -1, 1, 2):
                    if fits(model, part, number):
                        high = raised(model, part, number)
                        for signs, rows in some_cases(model):
                            for row in rows:
                                told = is_better(model, signs, row, rows[0])
                                self.assertIs(is_better(high, signs, row, rows[0]), told)


class Renamed(unittest.TestCase):
    def test_each_order_puts_each_cost_in_its_place(self):
        for model in MODELS:
            states = range(len(model[0]))
            for order in permutations(states):
                new = renamed(model, order)
                self.assertIs(is_model(new), True)
                for state in states:
                    self.assertEqual(new[0][order[state]], model[0][state])
                    self.assertEqual(new[2][order[state]], model[2][state])
                    for later in states:
                        self.assertEqual(new[1][order[state]][order[later]], model[1][state][later])

    def test_an_order_of_three_in_a_round(self):
        # In the place of 0 stands now what the model has for 2.
        expected = ((3, 0, 1), ((1, 2, 2), (2, 0, 1), (1, 3, 0)), ((1, 0, 2), (0, 1, 3), (2, 3, 0)))
        self.assertEqual(renamed(THREE, (1, 2, 0)), expected)
        self.assertEqual(renamed(expected, (2, 0, 1)), THREE)

    def test_the_order_that_changes_nothing(self):
        for model in MODELS:
            self.assertEqual(renamed(model, tuple(range(len(model[0])))), model)

    def test_costs_of_renamed_rows(self):
        for model in MODELS:
            for order in permutations(range(len(model[0]))):
                new = renamed(model, order)
                for signs, rows in some_cases(model):
                    for row in rows:
                        new_row = tuple(order[state] for state in row)
                        self.assertEqual(cost_of(new, signs, new_row), cost_of(model, signs, row))

    def test_another_row_can_be_the_better_one(self):
        model = ((0, 0), ((1, 1), (1, 1)), ((2,), (2,)))
        self.assertEqual(renamed(model, (1, 0)), model)
        self.assertIs(is_better(model, (0,), (0,), (1,)), True)
        self.assertIs(is_better(renamed(model, (1, 0)), (0,), (1,), (0,)), False)


class Without(unittest.TestCase):
    def test_each_state_of_three(self):
        self.assertEqual(without(THREE, 0), ((1, 3), ((0, 1), (2, 1)), ((2, 3, 0), (1, 0, 2))))
        self.assertEqual(without(THREE, 1), ((0, 3), ((0, 2), (2, 1)), ((0, 1, 3), (1, 0, 2))))
        self.assertEqual(without(THREE, 2), ((0, 1), ((0, 1), (3, 0)), ((0, 1, 3), (2, 3, 0))))

    def test_each_state_of_two(self):
        model = ((1, 2), ((0, 1), (2, 3)), ((3, 0), (1, 2)))
        self.assertEqual(without(model, 0), ((2,), ((3,),), ((1, 2),)))
        self.assertEqual(without(model, 1), ((1,), ((0,),), ((3, 0),)))

    def test_a_state_alone(self):
        for model in (ALONE, LEAST, without(without(THREE, 0), 1)):
            with self.assertRaises(NotPossible) as caught:
                without(model, 0)
            self.assertEqual(caught.exception.why, "alone")

    def test_costs_of_rows_without_the_state(self):
        for model, state in cases_without():
            less = without(model, state)
            self.assertIs(is_model(less), True)
            for signs, rows in some_cases(model):
                for row in rows:
                    if state not in row:
                        anew = numbered_anew(row, state)
                        self.assertEqual(cost_of(less, signs, anew), cost_of(model, signs, row))

    def test_the_best_row_stays_the_best_one(self):
        seen = 0
        for model, state in cases_without():
            less = without(model, state)
            for signs in all_signs(model, 4):
                best = best_of(model, signs, all_rows(model, signs))
                if signs and state not in best:
                    seen += 1
                    anew = numbered_anew(best, state)
                    others = [row for row in all_rows(less, signs) if row != anew]
                    self.assertTrue(all(is_better(less, signs, anew, row) for row in others))
        self.assertGreater(seen, 100)


def cases_without():
    return [(model, state) for model in MODELS if len(model[0]) > 1 for state in range(len(model[0]))]


def numbered_anew(row, left_out):
    return tuple(state - 1 if state > left_out else state for state in row)


class Results(unittest.TestCase):
    def test_all_are_tuples_throughout(self):
        for model in (raised(TOLD, "show", 1), renamed(DEAR, (2, 0, 1)), without(THREE, 1)):
            for part in (model, *model, *model[1], *model[2]):
                self.assertIs(type(part), tuple)


class NumbersAtTheEnds(unittest.TestCase):
    def test_three_is_a_number_and_four_is_not(self):
        self.assertEqual(raised(LEAST, "begin", 3), ((3,), ((0,),), ((0,),)))
        self.assertEqual(raised(DEAR, "show", -3)[2], FREE[2])
        for number in (-4, 4):
            with self.assertRaises(BadValue) as caught:
                raised(LEAST, "begin", number)
            self.assertEqual(caught.exception.name, "number")


if __name__ == "__main__":
    unittest.main()
