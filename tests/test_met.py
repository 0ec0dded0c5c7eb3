"""Point 86: which states are met at which times, and where the near rows agree."""

import unittest

from surepast.best import best_row
from surepast.made import renamed
from surepast.met import agreed, met
from surepast.near import count_near, nth_near
from tests.all_of_them import least_with, near_rows
from tests.samples import ALONE, DEAR, FREE, LEAST, MODELS, THREE, TOLD, TURNS, all_signs, flat_models, long_signs

MARGINS = range(31)


def short_signs(model):
    return list(all_signs(model, 3)) + [long_signs(model, 1)[0][:4], long_signs(model, 2)[0][:5]]


def met_in(rows, many):
    """Point 86, word by word."""
    return tuple(tuple(sorted({row[time] for row in rows})) for time in range(many))


def agreed_in(rows, many):
    """Point 86, word by word."""
    found = [{row[time] for row in rows} for time in range(many)]
    return tuple(min(states) if len(states) == 1 else None for states in found)


class Met(unittest.TestCase):
    def test_against_all_rows(self):
        for model in MODELS:
            for signs in short_signs(model):
                for margin in (0, 1, 2, 3, 5, 9, 30):
                    rows = near_rows(model, signs, margin)
                    self.assertEqual(met(model, signs, margin), met_in(rows, len(signs)))
                    self.assertEqual(agreed(model, signs, margin), agreed_in(rows, len(signs)))

    def test_within_every_margin(self):
        seen = set()
        for model in MODELS:
            for signs in all_signs(model, 2):
                for margin in MARGINS:
                    rows = near_rows(model, signs, margin)
                    self.assertEqual(met(model, signs, margin), met_in(rows, len(signs)))
                    self.assertEqual(agreed(model, signs, margin), agreed_in(rows, len(signs)))
                    seen |= set(met(model, signs, margin))
        self.assertEqual(seen, {(0,), (1,), (2,), (0, 1), (0, 2), (1, 2), (0, 1, 2)})

    def test_no_signs(self):
        for model in MODELS:
            for margin in MARGINS:
                self.assertEqual(met(model, (), margin), ())
                self.assertEqual(agreed(model, (), margin), ())

    def test_twenty_signs(self):
        for model in MODELS:
            signs = long_signs(model, 86)[0]
            least = [
                [least_with(model, signs, time, state) for state in range(len(model[0]))] for time in range(20)
            ]
            for margin in (0, 1, 2, 4, 8, 30):
                most = best_row(model, signs)[1] + margin
                told = tuple(tuple(state for state, cost in enumerate(costs) if cost <= most) for costs in least)
                self.assertEqual(met(model, signs, margin), told)
                self.assertEqual(
                    agreed(model, signs, margin), tuple(states[0] if len(states) == 1 else None for states in told),
                )

    def test_near_rows_of_twenty_states_one_by_one(self):
        seen = 0
        for model in MODELS:
            signs = long_signs(model, 87)[0]
            for margin in (0, 1, 2):
                many = count_near(model, signs, margin)
                if many <= 150:
                    rows = [nth_near(model, signs, margin, index) for index in range(many)]
                    self.assertEqual(met(model, signs, margin), met_in(rows, 20))
                    self.assertEqual(agreed(model, signs, margin), agreed_in(rows, 20))
                    seen += many
        self.assertGreater(seen, 500)

    def test_the_states_of_the_best_row_are_met(self):
        for model in MODELS:
            for signs in short_signs(model) + [long_signs(model, 88)[0]]:
                for margin in (0, 3):
                    told = met(model, signs, margin)
                    for state, states, same in zip(best_row(model, signs)[0], told, agreed(model, signs, margin)):
                        self.assertIn(state, states)
                        self.assertIn(same, (state, None))

    def test_one_state_and_rows_that_all_cost_the_same(self):
        for margin in (0, 30):
            self.assertEqual(agreed(ALONE, (2, 0, 1), margin), (0, 0, 0))
            self.assertEqual(met(LEAST, (0,) * 20, margin), ((0,),) * 20)
            for model in (FREE, DEAR):
                self.assertEqual(met(model, (0, 1) * 10, margin), ((0, 1, 2),) * 20)
                self.assertEqual(agreed(model, (0, 1) * 10, margin), (None,) * 20)

    def test_state_0_is_one_to_agree_on(self):
        self.assertEqual(agreed(TOLD, (0,), 3), (0,))
        self.assertIs(type(agreed(TOLD, (0,), 3)[0]), int)

    def test_the_edge_of_a_margin(self):
        # With the state 1 the one sign costs 4 more.
        self.assertEqual(met(TOLD, (0,), 3), ((0,),))
        self.assertEqual(met(TOLD, (0,), 4), ((0, 1),))

    def test_a_greater_margin_has_at_least_these(self):
        for model in MODELS + flat_models():
            signs = long_signs(model, 89)[0]
            before = [set(states) for states in met(model, signs, 0)]
            for margin in MARGINS:
                later = [set(states) for states in met(model, signs, margin)]
                self.assertTrue(all(one <= other for one, other in zip(before, later)))
                before = later

    def test_renamed_states_are_met(self):
        for model in [model for model in MODELS if len(model[0]) == 3]:
            order = (2, 0, 1)
            for signs in all_signs(model, 2):
                told = met(model, signs, 2)
                new = tuple(tuple(sorted(order[state] for state in states)) for states in told)
                self.assertEqual(met(renamed(model, order), signs, 2), new)

    def test_kinds_of_what_is_returned(self):
        for model in (ALONE, TURNS, THREE):
            told = met(model, (0, 0), 1)
            self.assertEqual([type(part) for part in (told, *told)], [tuple] * 3)
            self.assertEqual({type(state) for states in told for state in states}, {int})
            self.assertIs(type(agreed(model, (0, 0), 1)), tuple)


if __name__ == "__main__":
    unittest.main()
