"""Points 64 to 67, 69, 70, 71 and 73: conditions, with further signs, and who can still win."""

import unittest
from itertools import permutations, product

from surepast.conditions import all_conditions, can_win, condition, origins, with_sign
from surepast.made import raised
from surepast.sure import survivors
from tests.reckoning import (
    any_conditions, kinds, plain_can_win, plain_condition, plain_origins, plain_with_sign, quick_condition, states_of,
)
from tests.samples import (
    ALONE, DEAR, FREE, LATER, MODELS, SLOW, THREE, TOLD, TURNS, all_signs, best_from_behind, best_states, long_signs,
    small_models, times,
)


class Conditions(unittest.TestCase):
    def test_against_all_rows(self):
        for model in MODELS:
            for signs in all_signs(model, 4):
                if signs:
                    self.assertEqual(condition(model, signs), plain_condition(model, signs))

    def test_up_to_two_hundred_signs(self):
        for seed, model in enumerate(MODELS):
            signs = long_signs(model, seed)[0] * 9 + long_signs(model, seed + 1)[0]
            self.assertEqual(len(signs), 200)
            for many in (5, 20, 21, 60, 199, 200):
                self.assertEqual(condition(model, signs[:many]), quick_condition(model, signs[:many]))

    def test_single_signs(self):
        for model in MODELS:
            for sign in kinds(model):
                costs = [model[0][state] + model[2][state][sign] for state in states_of(model)]
                expected = (tuple(cost - min(costs) for cost in costs), tuple(states_of(model)))
                self.assertEqual(condition(model, (sign,)), expected)

    def test_kinds_of_what_is_returned(self):
        for model in (ALONE, TOLD, THREE):
            held = condition(model, (0, 0, 0))
            self.assertEqual([type(part) for part in (held, *held)], [tuple] * 3)
            self.assertEqual({type(part) for part in held[0] + held[1]}, {int})

    def test_costs_are_at_most_six(self):
        greatest = 0
        for model in MODELS + [SLOW]:
            for (costs, order), _ in all_conditions(model):
                self.assertEqual(min(costs), 0)
                self.assertEqual(sorted(order), list(states_of(model)))
                greatest = max(greatest, *costs)
        self.assertLessEqual(greatest, 6)
        self.assertEqual(condition(((0, 3), ((0, 3), (0, 3)), ((0,), (3,))), (0, 0)), ((0, 6), (0, 1)))

    def test_the_same_condition_the_same_future(self):
        for model in MODELS:
            alike = {}
            for signs in [signs for signs in all_signs(model, 3) if signs]:
                alike.setdefault(condition(model, signs), []).append(signs)
            for one, *others in alike.values():
                for other in others[:3]:
                    for further in [further for further in all_signs(model, 3) if further]:
                        self.assertEqual(condition(model, one + further), condition(model, other + further))
                        rows = [best_states(model, signs + further)[len(signs) - 1:] for signs in (one, other)]
                        self.assertEqual(*rows)

    def test_point_73(self):
        self.assertEqual(condition(TURNS, (1,)), ((1, 0), (0, 1)))


class FurtherSigns(unittest.TestCase):
    def test_sign_by_sign(self):
        for seed, model in enumerate(MODELS):
            signs = long_signs(model, seed)[0]
            for many in range(1, 20):
                held = condition(model, signs[:many])
                self.assertEqual(with_sign(model, held, signs[many]), condition(model, signs[:many + 1]))

    def test_origins_are_the_states_before(self):
        for seed, model in enumerate(MODELS):
            cases = [signs for signs in all_signs(model, 3) if len(signs) > 1] + [long_signs(model, seed)[0]]
            for signs in cases:
                before = [best_from_behind(model, signs, [state])[1][-2] for state in states_of(model)]
                self.assertEqual(origins(model, condition(model, signs[:-1]), signs[-1]), tuple(before))

    def test_conditions_that_need_not_come(self):
        for seed, model in enumerate(MODELS):
            for held in any_conditions(model, seed):
                for sign in kinds(model):
                    self.assertEqual(origins(model, held, sign), plain_origins(model, held))
                    self.assertEqual(with_sign(model, held, sign), plain_with_sign(model, held, sign))

    def test_of_equal_sums_the_first_row(self):
        for order in permutations(range(3)):
            self.assertEqual(origins(FREE, ((0, 0, 0), order), 0), (order[0],) * 3)
            self.assertEqual(with_sign(FREE, ((0, 0, 0), order), 1), ((0, 0, 0), (0, 1, 2)))
        self.assertEqual(origins(TURNS, ((0, 1), (0, 1)), 0), (0, 0))
        self.assertEqual(origins(TURNS, ((0, 1), (1, 0)), 0), (0, 1))

    def test_states_of_an_earlier_origin_come_first(self):
        model = ((0, 0, 0), ((3, 3, 0), (0, 3, 3), (3, 0, 3)), ((0,),) * 3)
        self.assertEqual(origins(model, ((0, 0, 0), (2, 0, 1)), 0), (1, 2, 0))
        self.assertEqual(with_sign(model, ((0, 0, 0), (2, 0, 1)), 0), ((0, 0, 0), (1, 2, 0)))

    def test_kinds_of_what_is_returned(self):
        for model in (ALONE, TOLD, THREE):
            held = condition(model, (0,))
            self.assertIs(type(origins(model, held, 0)), tuple)
            further = with_sign(model, held, 0)
            self.assertEqual([type(part) for part in (further, *further)], [tuple] * 3)


class StatesThatCanWin(unittest.TestCase):
    def test_against_the_words(self):
        seen = set()
        for seed, model in enumerate(MODELS):
            for held in any_conditions(model, seed) + [held for held, _ in all_conditions(model)]:
                told = can_win(model, held)
                self.assertIs(type(told), tuple)
                self.assertEqual(told, plain_can_win(model, held))
                seen.add(told)
        self.assertEqual(seen, {(0,), (1,), (2,), (0, 1), (0, 2), (1, 2), (0, 1, 2)})

    def test_they_are_the_survivors(self):
        for model in MODELS:
            for signs in [signs for signs in all_signs(model, 3) if signs] + [long_signs(model, 2)[0]]:
                told = [state for state, _ in survivors(model, signs)]
                self.assertEqual(list(can_win(model, condition(model, signs))), told)

    def test_of_equal_sums_the_first_one_in_the_order(self):
        for order in permutations(range(3)):
            self.assertEqual(can_win(FREE, ((0, 0, 0), order)), (order[0],))
            self.assertEqual(can_win(DEAR, ((0, 0, 9), order)), (order[0] if order[0] < 2 else order[1],))
        self.assertEqual(can_win(TURNS, ((1, 0), (1, 0))), (1,))
        self.assertEqual(can_win(TURNS, ((1, 0), (0, 1))), (0, 1))


class AllConditions(unittest.TestCase):
    def test_the_first_signs_in_order_by_length(self):
        for model in MODELS:
            told = dict(all_conditions(model))
            first = {}
            for signs in all_signs(model, 5):
                if signs:
                    first.setdefault(quick_condition(model, signs), signs)
            for held, signs in first.items():
                self.assertEqual(told.pop(held), signs)
            self.assertTrue(all(len(signs) > 5 for signs in told.values()))

    def test_all_that_come_and_no_others(self):
        for model in MODELS:
            told = dict(all_conditions(model))
            for held, signs in told.items():
                self.assertEqual(quick_condition(model, signs), held)
                for sign in kinds(model):
                    self.assertIn(plain_with_sign(model, held, sign), told)
            for sign in kinds(model):
                self.assertIn(condition(model, (sign,)), told)

    def test_long_first_signs(self):
        told = all_conditions(SLOW)
        self.assertGreater(max(len(signs) for _, signs in told), 8)
        held = {(sign,): plain_condition(SLOW, (sign,)) for sign in kinds(SLOW)}
        for signs in all_signs(SLOW, 10):
            if len(signs) > 1:
                held[signs] = plain_with_sign(SLOW, held[signs[:-1]], signs[-1])
        first = {}
        for signs, its in held.items():
            first.setdefault(its, signs)
        self.assertEqual([pair for pair in told if len(pair[1]) <= 10], sorted(first.items()))

    def test_a_new_ascending_list_of_pairs(self):
        for model in (ALONE, TURNS, THREE):
            told = all_conditions(model)
            self.assertIs(type(told), list)
            self.assertEqual(told, sorted(told))
            self.assertEqual({type(part) for pair in told for part in (pair, *pair)}, {tuple})
            kept = list(told)
            told.reverse()
            told.pop()
            self.assertEqual(all_conditions(model), kept)

    def test_what_some_models_have(self):
        self.assertEqual(all_conditions(LATER), [(((1, 0), (0, 1)), (0,))])
        self.assertEqual(all_conditions(ALONE), [(((0,), (0,)), (0,))])
        self.assertEqual(all_conditions(FREE), [(((0, 0, 0), (0, 1, 2)), (0,))])
        self.assertEqual(all_conditions(TURNS), [
            (((0, 0), (0, 1)), (0, 1)), (((0, 1), (0, 1)), (0,)), (((0, 2), (0, 1)), (0, 0)),
            (((1, 0), (0, 1)), (1,)), (((2, 0), (0, 1)), (1, 1)),
        ])


class OtherCosts(unittest.TestCase):
    def test_begin_and_change_costs_raised(self):
        seen = 0
        for model in MODELS:
            for part, number in product(("begin", "change"), (-3, -2, -1, 1, 2, 3)):
                costs = model[0] if part == "begin" else sum(model[1], ())
                if 0 <= min(costs) + number and max(costs) + number <= 3:
                    self.assertEqual(all_conditions(raised(model, part, number)), all_conditions(model))
                    seen += 1
        self.assertGreater(seen, 20)

    def test_all_costs_multiplied(self):
        seen = 0
        for model in small_models():
            for number in (2, 3):
                told = all_conditions(times(model, number))
                expected = [
                    ((tuple(number * cost for cost in costs), order), signs)
                    for (costs, order), signs in all_conditions(model)
                ]
                self.assertEqual(told, expected)
                seen += len(told) > 3
        self.assertGreater(seen, 10)


if __name__ == "__main__":
    unittest.main()
