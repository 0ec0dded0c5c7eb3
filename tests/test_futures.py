"""Points 30 to 33 and 35 to 38: profiles of further signs, and their first signs."""

import unittest
from itertools import product
from random import Random

from surepast.best import best_row, ending_row
from surepast.futures import first_signs, profile, profiles, spread, with_ahead
from tests.samples import (
    ALONE, DEAR, FREE, LATER, LEAST, MODELS, SLOW, THREE, TURNS, all_signs, closure, flat_models, long_signs,
    plain_ahead, plain_profile, small_models, times,
)


def noughts(model):
    return (0,) * len(model[0])


def kinds(model):
    return range(len(model[2][0]))


def some_numbers(model, source, many=10):
    ends = [(number,) * len(model[0]) for number in (-1000, 0, 1000)]
    return ends + [tuple(source.randint(-1000, 1000) for _ in model[0]) for _ in range(many)]


def in_order_by_length(model, most):
    """A dict from the profiles of all tuples of at most so many further signs to the first ones that have them."""
    first = {noughts(model): ()}
    layer = {(): noughts(model)}
    for many in range(1, most + 1):
        layer = {signs: plain_ahead(model, signs[0], layer[signs[1:]]) for signs in product(kinds(model), repeat=many)}
        for signs, numbers in layer.items():
            first.setdefault(numbers, signs)
    return first


class Profiles(unittest.TestCase):
    def test_against_all_rows(self):
        for model in MODELS:
            for further in all_signs(model, 4 if len(model[0]) < 3 else 3):
                self.assertEqual(profile(model, further), plain_profile(model, further))

    def test_one_number_is_nought(self):
        for model in MODELS:
            for further in list(all_signs(model, 3)) + [long_signs(model, seed)[0] for seed in range(5)]:
                numbers = profile(model, further)
                self.assertEqual(min(numbers), 0)
                self.assertEqual((type(numbers), len(numbers)), (tuple, len(model[0])))

    def test_no_signs(self):
        for model in MODELS:
            self.assertEqual(profile(model, ()), noughts(model))

    def test_the_first_sign_ahead_of_the_others(self):
        for model in MODELS:
            for further in list(all_signs(model, 3)) + [long_signs(model, seed)[0] for seed in range(3)]:
                for many in range(len(further)):
                    signs = further[many:]
                    self.assertEqual(profile(model, signs), with_ahead(model, signs[0], profile(model, signs[1:])))

    def test_twenty_signs(self):
        for model in MODELS:
            further = long_signs(model, 4)[0]
            numbers = noughts(model)
            for sign in reversed(further):
                numbers = plain_ahead(model, sign, numbers)
            self.assertEqual(profile(model, further), numbers)

    def test_the_best_row_with_further_signs_behind(self):
        for model in MODELS:
            for signs in [signs for signs in all_signs(model, 3) if signs] + [long_signs(model, 1)[0][:12]]:
                ends = [ending_row(model, signs, state) for state in range(len(model[0]))]
                for further in list(all_signs(model, 3)) + [long_signs(model, 2)[0][:8]]:
                    numbers = profile(model, further)
                    sums = [(cost + number, row) for (row, cost), number in zip(ends, numbers)]
                    self.assertEqual(best_row(model, signs + further)[0][:len(signs)], min(sums)[1])


class Ahead(unittest.TestCase):
    def test_against_the_words(self):
        source = Random(31)
        for model in MODELS:
            for numbers in some_numbers(model, source):
                for sign in kinds(model):
                    told = with_ahead(model, sign, numbers)
                    self.assertEqual(told, plain_ahead(model, sign, numbers))
                    self.assertEqual((type(told), min(told)), (tuple, 0))

    def test_numbers_made_greater_alike(self):
        source = Random(36)
        for model in MODELS:
            for _ in range(5):
                numbers = tuple(source.randint(-500, 500) for _ in model[0])
                for sign in kinds(model):
                    for more in (-500, -1, 1, 3, 500):
                        greater = tuple(number + more for number in numbers)
                        self.assertEqual(with_ahead(model, sign, greater), with_ahead(model, sign, numbers))

    def test_what_is_at_most_stays_so(self):
        # Before the least is taken off: the further state with it is reckoned by hand.
        source = Random(37)
        for model in MODELS:
            for _ in range(10):
                numbers = tuple(source.randint(-9, 9) for _ in model[0])
                greater = tuple(number + source.randint(0, 3) for number in numbers)
                for sign in kinds(model):
                    costs = [self.before_the_least(model, sign, these) for these in (numbers, greater)]
                    self.assertTrue(all(one <= other for one, other in zip(*costs)))
                    for these, its in zip((numbers, greater), costs):
                        self.assertEqual(with_ahead(model, sign, these), tuple(cost - min(its) for cost in its))

    def before_the_least(self, model, sign, numbers):
        states = range(len(model[0]))
        return [min(model[1][state][to] + model[2][to][sign] + numbers[to] for to in states) for state in states]


class AllProfiles(unittest.TestCase):
    def test_they_are_those_of_all_further_signs(self):
        for model in MODELS + [SLOW]:
            told = profiles(model)
            self.assertIs(type(told), tuple)
            self.assertEqual(told, tuple(sorted(set(told))))
            self.assertEqual(told, closure(model, []))
            for further in list(all_signs(model, 4)) + [long_signs(model, seed)[0] for seed in range(5)]:
                self.assertIn(profile(model, further), told)

    def test_the_first_signs_in_order_by_length(self):
        for model in MODELS + [SLOW]:
            most = 9 if len(kinds(model)) < 3 else 6
            first = in_order_by_length(model, most)
            told = dict(first_signs(model))
            for numbers, signs in first.items():
                self.assertEqual(told.pop(numbers), signs)
            self.assertTrue(all(len(signs) > most for signs in told.values()))

    def test_each_has_its_first_signs(self):
        for model in MODELS + [SLOW]:
            for numbers, signs in first_signs(model):
                self.assertEqual(profile(model, signs), numbers)

    def test_first_signs_of_sixteen(self):
        told = first_signs(SLOW)
        self.assertEqual(max(len(signs) for _, signs in told), 16)
        self.assertEqual(told, sorted(in_order_by_length(SLOW, 16).items()))

    def test_a_list_of_pairs_that_ascends(self):
        for model in MODELS:
            told = first_signs(model)
            self.assertIs(type(told), list)
            self.assertEqual([type(pair) for pair in told], [tuple] * len(told))
            self.assertEqual([type(part) for pair in told for part in pair], [tuple] * 2 * len(told))
            self.assertEqual(tuple(numbers for numbers, signs in told), profiles(model))
            self.assertIn((noughts(model), ()), told)

    def test_the_list_is_a_new_one(self):
        for model in (TURNS, THREE):
            first = first_signs(model)
            kept = list(first)
            first[0] = None
            first.pop()
            self.assertEqual(first_signs(model), kept)
            self.assertIsNot(first_signs(model), first_signs(model))

    def test_what_some_models_have(self):
        self.assertEqual(profiles(TURNS), ((0, 0), (0, 1), (1, 0)))
        self.assertEqual(profiles(LATER), ((0, 0), (0, 1)))
        self.assertEqual(profiles(ALONE), ((0,),))
        self.assertEqual(first_signs(FREE), [((0, 0, 0), ())])

    def test_how_many_at_most(self):
        for model in MODELS + [SLOW]:
            self.assertLessEqual(len(profiles(model)), (1, 7, 37)[len(model[0]) - 1])
        self.assertEqual(len(profiles(SLOW)), 37)


class Spreads(unittest.TestCase):
    def test_the_greatest_of_all_profiles(self):
        for model in MODELS + [SLOW]:
            told = spread(model)
            self.assertIs(type(told), int)
            self.assertEqual(told, max(max(numbers) - min(numbers) for numbers in profiles(model)))

    def test_the_bound(self):
        reached = 0
        for model in MODELS + [SLOW]:
            bound = max(max(costs) - min(costs) for costs in zip(*model[1]))
            self.assertLessEqual(spread(model), bound)
            reached += spread(model) == bound
        self.assertGreater(reached, 5)

    def test_what_some_models_have(self):
        self.assertEqual([spread(model) for model in (TURNS, LATER, ALONE, FREE, DEAR)], [1, 1, 0, 0, 0])
        self.assertEqual(spread(((0, 0), ((0, 3), (3, 0)), ((0, 3), (3, 0)))), 3)


class SpecialKinds(unittest.TestCase):
    def test_changes_to_each_state_alike(self):
        for model in flat_models():
            self.assertEqual(profiles(model), (noughts(model),))
            self.assertEqual(first_signs(model), [(noughts(model), ())])
            self.assertEqual(spread(model), 0)

    def test_all_costs_multiplied(self):
        seen = 0
        for model in small_models():
            for number in (2, 3):
                more = times(model, number)
                expected = [(tuple(number * cost for cost in costs), signs) for costs, signs in first_signs(model)]
                self.assertEqual(first_signs(more), expected)
                self.assertEqual(profiles(more), tuple(costs for costs, signs in expected))
                self.assertEqual(spread(more), number * spread(model))
                seen += len(expected) > 1
        self.assertGreater(seen, 10)

    def test_one_state(self):
        for model in (ALONE, LEAST):
            self.assertEqual(profile(model, (0,) * 20), (0,))
            self.assertEqual(with_ahead(model, 0, (-1000,)), (0,))


if __name__ == "__main__":
    unittest.main()
