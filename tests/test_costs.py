"""Points 4, 6, 7, 9, 10, 11, 15 and 16: costs of rows, their steps, and better rows."""

import unittest

from surepast.errors import BadValue
from surepast.models import cost_of, is_better, steps
from tests.samples import (
    ALONE, DEAR, FREE, MODELS, THREE, TOLD, TURNS, all_rows, all_signs, best_of, long_signs, plain_cost,
)


def short_cases(most=3):
    """Each model with all signs of at most so many, and all rows for them."""
    return [(model, signs, all_rows(model, signs)) for model in MODELS for signs in all_signs(model, most)]


def long_cases():
    return [(model, *long_signs(model, seed)) for seed, model in enumerate(MODELS)]


class Costs(unittest.TestCase):
    def test_all_short_rows(self):
        for model, signs, rows in short_cases():
            for row in rows:
                self.assertEqual(cost_of(model, signs, row), plain_cost(model, signs, row))

    def test_twenty_signs(self):
        for model, signs, rows in long_cases():
            for row in rows:
                self.assertEqual(cost_of(model, signs, row), plain_cost(model, signs, row))

    def test_no_signs(self):
        for model in MODELS:
            self.assertEqual(cost_of(model, (), ()), 0)

    def test_each_cost_is_taken_from_its_own_place(self):
        self.assertEqual(cost_of(THREE, (2,), (2,)), 3 + 2)
        self.assertEqual(cost_of(THREE, (0, 2), (1, 0)), 1 + 2 + 3 + 3)
        self.assertEqual(cost_of(THREE, (0, 2), (0, 1)), 0 + 0 + 1 + 0)
        self.assertEqual(cost_of(THREE, (1, 1, 0), (2, 2, 1)), 3 + 0 + 1 + 0 + 2 + 2)

    def test_at_most_six_for_each_sign(self):
        for model, signs, rows in short_cases() + long_cases():
            for row in rows:
                self.assertLessEqual(cost_of(model, signs, row), 6 * len(signs))
        for many in range(21):
            self.assertEqual(cost_of(DEAR, (1,) * many, (2,) * many), 6 * many)
            self.assertEqual(cost_of(FREE, (1,) * many, (2,) * many), 0)

    def test_a_cost_is_an_integer(self):
        for model in MODELS:
            for signs in ((), (0,), (0, 0)):
                self.assertIs(type(cost_of(model, signs, signs)), int)


class Steps(unittest.TestCase):
    def test_two_costs_for_each_state(self):
        for model, signs, rows in short_cases() + long_cases():
            begin, change, show = model
            for row in rows:
                told = steps(model, signs, row)
                self.assertIs(type(told), tuple)
                self.assertEqual(len(told), len(row))
                for time, step in enumerate(told):
                    come = begin[row[0]] if time == 0 else change[row[time - 1]][row[time]]
                    self.assertIs(type(step), tuple)
                    self.assertEqual(step, (come, show[row[time]][signs[time]]))

    def test_together_they_are_the_cost(self):
        for model, signs, rows in short_cases() + long_cases():
            for row in rows:
                self.assertEqual(sum(map(sum, steps(model, signs, row))), cost_of(model, signs, row))

    def test_no_signs(self):
        for model in MODELS:
            self.assertEqual(steps(model, (), ()), ())

    def test_each_step_in_turn(self):
        self.assertEqual(steps(THREE, (0, 2, 1), (2, 0, 1)), ((3, 1), (2, 3), (1, 3)))
        self.assertEqual(steps(ALONE, (0, 1, 2), (0, 0, 0)), ((2, 0), (1, 3), (1, 1)))


class Joined(unittest.TestCase):
    def check(self, model, signs, row, further, more):
        further_steps = steps(model, further, more)
        joined = cost_of(model, signs, row) + sum(map(sum, further_steps))
        joined += model[1][row[-1]][more[0]] - model[0][more[0]]
        self.assertEqual(cost_of(model, signs + further, row + more), joined)
        met = (model[1][row[-1]][more[0]], further_steps[0][1])
        together = steps(model, signs, row) + (met,) + further_steps[1:]
        self.assertEqual(steps(model, signs + further, row + more), together)

    def test_short_ones(self):
        cases = [case for case in short_cases(2) if case[1]]
        for model, signs, rows in cases:
            for other_model, further, more_rows in cases:
                if other_model is model:
                    for row in rows:
                        for more in more_rows:
                            self.check(model, signs, row, further, more)

    def test_long_ones(self):
        for model, signs, rows in long_cases():
            for row in rows:
                for at in (1, 7, 10, 19):
                    self.check(model, signs[:at], row[:at], signs[at:], row[at:])


class Better(unittest.TestCase):
    def test_all_short_pairs(self):
        for model, signs, rows in short_cases():
            for row in rows:
                for other in rows:
                    cost, other_cost = plain_cost(model, signs, row), plain_cost(model, signs, other)
                    told = cost < other_cost or (cost == other_cost and row < other)
                    self.assertIs(is_better(model, signs, row, other), told)

    def test_of_two_different_rows_exactly_one_is_better(self):
        for model, signs, rows in short_cases(2) + long_cases():
            for row in rows:
                for other in rows:
                    told = [is_better(model, signs, row, other), is_better(model, signs, other, row)]
                    self.assertEqual(sorted(told), [False, row != other])

    def test_twenty_signs(self):
        for model, signs, rows in long_cases():
            for row in rows:
                for other in rows:
                    told = best_of(model, signs, [other, row]) == row and row != other
                    self.assertIs(is_better(model, signs, row, other), told)

    def test_no_row_is_better_than_itself(self):
        for model in MODELS:
            self.assertIs(is_better(model, (), (), ()), False)
            self.assertIs(is_better(model, (0,) * 20, (0,) * 20, (0,) * 20), False)

    def test_of_equal_costs_the_first_difference_counts(self):
        row = (0,) * 9 + (1, 2) + (2,) * 9
        other = (0,) * 9 + (2, 0) + (0,) * 9
        self.assertIs(is_better(FREE, (1,) * 20, row, other), True)
        self.assertIs(is_better(FREE, (1,) * 20, other, row), False)
        self.assertIs(is_better(TURNS, (1, 0), (0, 0), (1, 1)), True)
        self.assertIs(is_better(TURNS, (1, 0), (1, 1), (0, 0)), False)

    def test_the_cost_counts_more_than_the_states(self):
        self.assertIs(is_better(TOLD, (1, 1), (1, 1), (0, 0)), True)
        self.assertIs(is_better(TOLD, (1, 1), (0, 0), (1, 1)), False)


class Rows(unittest.TestCase):
    def test_as_many_rows_as_the_states_to_the_power(self):
        # Of all tuples of the integers from -1 to 3, these are taken and no others.
        for model in (ALONE, TOLD, THREE):
            for many in range(4):
                taken = 0
                for row in all_rows(((0,) * 5,), (0,) * many):
                    try:
                        cost_of(model, (0,) * many, tuple(state - 1 for state in row))
                        taken += 1
                    except BadValue as error:
                        self.assertEqual(error.name, "row")
                self.assertEqual(taken, len(model[0]) ** many)

    def test_one_other_state_matters_only_for_its_neighbours(self):
        for model, signs, rows in short_cases(3):
            differences = {}
            for row in rows:
                for time in range(len(row)):
                    for state in range(len(model[0])):
                        other = row[:time] + (state,) + row[time + 1:]
                        beside = (row[time - 1] if time else None, row[time + 1:time + 2])
                        key = (time, signs[time], row[time], state, beside)
                        difference = cost_of(model, signs, other) - cost_of(model, signs, row)
                        self.assertEqual(differences.setdefault(key, difference), difference)

    def test_the_difference_is_that_of_three_costs(self):
        for model, signs, rows in long_cases():
            change, show = model[1], model[2]
            for row in rows:
                for time in range(1, 19):
                    for state in range(len(model[0])):
                        def here(now):
                            coming = change[row[time - 1]][now] + show[now][signs[time]]
                            return coming + change[now][row[time + 1]]
                        other = row[:time] + (state,) + row[time + 1:]
                        difference = cost_of(model, signs, other) - cost_of(model, signs, row)
                        self.assertEqual(difference, here(state) - here(row[time]))


if __name__ == "__main__":
    unittest.main()
