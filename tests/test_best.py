"""Points 7, 19, 20, 25, 26 and 27: the best rows, and the ending rows."""

import unittest
from random import Random

from surepast.best import best_row, ending_row
from surepast.models import cost_of
from tests.samples import (
    DEAR, FREE, LATER, MODELS, THREE, TOLD, TURNS, all_rows, all_signs, best_from_behind, best_of, best_states,
    flat_models, long_signs, plain_cost,
)


def some_signs(model, most=3):
    """All signs of at least one and at most so many, and some longer ones up to twenty."""
    long = [long_signs(model, seed)[0] for seed in range(4)]
    short = [signs for signs in all_signs(model, most) if signs]
    return short + long + [signs[:many] for signs, many in zip(long, (7, 12, 19))]


def states_of(model):
    return range(len(model[0]))


class BestRows(unittest.TestCase):
    def test_against_all_rows(self):
        for model in MODELS:
            for signs in all_signs(model, 4):
                row = best_of(model, signs, all_rows(model, signs))
                self.assertEqual(best_row(model, signs), (row, plain_cost(model, signs, row)))

    def test_no_signs(self):
        for model in MODELS:
            self.assertEqual(best_row(model, ()), ((), 0))

    def test_up_to_twenty_signs(self):
        for model in MODELS:
            for seed in range(10):
                signs = long_signs(model, seed)[0]
                for many in (5, 10, 19, 20):
                    cost, row = best_from_behind(model, signs[:many], states_of(model))
                    self.assertEqual(best_row(model, signs[:many]), (row, cost))

    def test_of_rows_that_cost_as_much_the_lesser_one(self):
        for model in (FREE, DEAR):
            for many in (1, 2, 19, 20):
                self.assertEqual(best_row(model, (1,) * many)[0], (0,) * many)
        self.assertEqual(best_row(TURNS, (1, 0)), ((0, 0), 1))
        self.assertEqual(best_row(TURNS, (1, 0) * 10), ((0,) * 20, 10))
        self.assertEqual(best_row(TURNS, (0, 0, 1)), ((0, 0, 0), 1))
        # The row 1, 0 costs as much as 0, 1, though its last state is the lesser one.
        model = ((0, 0), ((3, 0), (0, 3)), ((0,), (0,)))
        self.assertEqual(best_row(model, (0, 0)), ((0, 1), 0))
        self.assertEqual(best_row(model, (0,) * 20), ((0, 1) * 10, 0))

    def test_lesser_states_only_where_the_cost_lets_them(self):
        self.assertEqual(best_row(TURNS, (1, 1)), ((1, 1), 0))
        self.assertEqual(best_row(LATER, (0, 0, 0)), ((0, 0, 1), 2))
        self.assertEqual(best_row(TOLD, (0, 1, 1)), ((0, 1, 1), 1))

    def test_kinds_of_what_is_returned(self):
        for model in MODELS:
            for told in (best_row(model, ()), best_row(model, (0, 0)), ending_row(model, (0, 0), 0)):
                self.assertEqual([type(part) for part in (told, *told)], [tuple, tuple, int])


class EndingRows(unittest.TestCase):
    def test_against_all_rows(self):
        for model in MODELS:
            for signs in all_signs(model, 4):
                for state in states_of(model) if signs else ():
                    row = best_of(model, signs, [row for row in all_rows(model, signs) if row[-1] == state])
                    self.assertEqual(ending_row(model, signs, state), (row, plain_cost(model, signs, row)))

    def test_up_to_twenty_signs(self):
        for model in MODELS:
            for signs in some_signs(model, 0):
                for state in states_of(model):
                    cost, row = best_from_behind(model, signs, [state])
                    self.assertEqual(ending_row(model, signs, state), (row, cost))

    def test_of_rows_that_cost_as_much_the_lesser_one(self):
        for state in range(3):
            self.assertEqual(ending_row(FREE, (0,) * 20, state), ((0,) * 19 + (state,), 0))
            self.assertEqual(ending_row(DEAR, (0,) * 20, state), ((0,) * 19 + (state,), 120))
        self.assertEqual(ending_row(TURNS, (1, 0), 1), ((1, 1), 1))
        self.assertEqual(ending_row(TURNS, (0, 1), 1), ((0, 1), 1))

    def test_the_best_row_is_the_best_one_of_them(self):
        for model in MODELS:
            for signs in some_signs(model):
                ends = [ending_row(model, signs, state) for state in states_of(model)]
                cost, row = min((cost, row) for row, cost in ends)
                self.assertEqual(best_row(model, signs), (row, cost))

    def test_without_the_last_state(self):
        for model in MODELS:
            for signs in some_signs(model):
                for state in states_of(model) if len(signs) > 1 else ():
                    row = ending_row(model, signs, state)[0]
                    self.assertEqual(row[-1], state)
                    self.assertEqual(ending_row(model, signs[:-1], row[-2])[0], row[:-1])

    def test_the_best_row_with_further_signs_begins_with_one(self):
        for model in MODELS:
            for signs in some_signs(model):
                ends = [ending_row(model, signs, state)[0] for state in states_of(model)]
                for further in list(all_signs(model, 2)) + [long_signs(model, 9)[0]]:
                    together = (signs + further)[:20]
                    self.assertIn(best_row(model, together)[0][:len(signs)], ends)

    def test_the_bound_of_point_25(self):
        reached = 0
        for model in MODELS:
            for signs in some_signs(model):
                if len(signs) > 1:
                    costs = [ending_row(model, signs, state)[1] for state in states_of(model)]
                    bound = max(map(max, model[1])) + max(shown[signs[-1]] for shown in model[2])
                    self.assertLessEqual(max(costs) - min(costs), bound)
                    reached += max(costs) - min(costs) == bound
        self.assertGreater(reached, 0)


class BestRowsOfSpecialKinds(unittest.TestCase):
    def test_changes_to_each_state_alike(self):
        for model in flat_models():
            begin, change, show = model
            for signs in some_signs(model):
                row = []
                for time, sign in enumerate(signs):
                    come = begin if time == 0 else change[0]
                    row.append(min(states_of(model), key=lambda state: come[state] + show[state][sign]))
                self.assertEqual(best_row(model, signs)[0], tuple(row))

    def test_a_row_that_differs_at_one_time_only(self):
        equal = 0
        for model in MODELS:
            for signs in some_signs(model):
                best, cost = best_row(model, signs)
                for time in range(len(signs)):
                    for state in states_of(model):
                        if state != best[time]:
                            other = cost_of(model, signs, best[:time] + (state,) + best[time + 1:])
                            self.assertGreaterEqual(other, cost + 1 if state < best[time] else cost)
                            equal += other == cost
        self.assertGreater(equal, 100)

    def test_a_row_that_is_changed_anyhow_is_not_better(self):
        source = Random(7)
        for model in MODELS:
            for seed in range(3):
                signs, rows = long_signs(model, seed)
                best, cost = best_row(model, signs)
                for _ in range(20):
                    first, behind = sorted((source.randrange(21), source.randrange(21)))
                    other = best[:first] + source.choice(rows)[first:behind] + best[behind:]
                    self.assertGreaterEqual((cost_of(model, signs, other), other), (cost, best))
                self.assertEqual(cost_of(model, signs, best), cost)

    def test_the_reckoning_from_behind_is_right(self):
        for model in (THREE, TURNS, LATER):
            for signs in all_signs(model, 4):
                self.assertEqual(best_states(model, signs), best_of(model, signs, all_rows(model, signs)))


if __name__ == "__main__":
    unittest.main()
