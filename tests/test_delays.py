"""Points 53 to 55 and 59 to 61: the delay, and undecided signs."""

import unittest
from itertools import product

from surepast.conditions import all_conditions
from surepast.delays import delay, undecided
from surepast.errors import TooLarge
from surepast.made import raised
from tests.reckoning import (
    is_open, kinds, last_marked, many_sure, marked_with, marked_with_all, quick_condition, ranks_in, web_of,
)
from tests.samples import (
    ALONE, DEAR, DELAYED, FREE, FULL, LATER, LATEST, LEAST, MODELS, THREE, TOO_FULL, TURNS, all_signs, flat_models,
    small_models, times,
)

CASES = MODELS + DELAYED + [LATEST]


def waits(model, signs, further):
    """Tell whether the last time of the signs is open behind the further ones."""
    return many_sure(model, signs + further) < len(signs)


def first_undecided(model, number, most):
    """Point 59, word by word, for at most so many signs."""
    for signs in all_signs(model, most):
        for further in product(kinds(model), repeat=number) if signs else ():
            if waits(model, signs, further):
                return signs, further
    return None


def delay_by_ranks(model):
    """The delay, by points 54 to 56 and plain reckoning."""
    conditions = [held for held, _ in all_conditions(model)]
    ranks = ranks_in(web_of(model, conditions))
    if None in ranks.values():
        return None
    return max((ranks[last_marked(held)] for held in conditions if last_marked(held) in ranks), default=0)


class Delays(unittest.TestCase):
    def test_by_plain_reckoning(self):
        seen = set()
        for model in CASES:
            self.assertEqual(delay(model), delay_by_ranks(model))
            seen.add(delay(model))
        self.assertEqual([delay(model) for model in DELAYED], [2, 3, 4, 5, 6, 7])
        self.assertTrue({None, 0, 1, 12} <= seen)

    def test_behind_so_many_further_signs_all_is_sure(self):
        seen = 0
        for model in CASES:
            number = delay(model)
            if number is not None and number <= 5:
                seen += 1
                for signs in all_signs(model, 2):
                    for further in product(kinds(model), repeat=number) if signs else ():
                        self.assertGreaterEqual(many_sure(model, signs + further), len(signs))
        self.assertGreater(seen, 15)

    def test_behind_fewer_it_is_not(self):
        for model in CASES:
            number = delay(model)
            for less in range(min(5, 5 if number is None else number)):
                signs, further = undecided(model, less)
                self.assertEqual(len(further), less)
                self.assertTrue(waits(model, signs, further))

    def test_what_some_models_have(self):
        self.assertIsNone(delay(TURNS))
        self.assertEqual([delay(model) for model in (LATER, ALONE, FREE, DEAR, LEAST, LATEST)], [1, 0, 0, 0, 0, 12])
        self.assertIs(type(delay(LATER)), int)

    def test_one_state_and_changes_to_each_state_alike(self):
        for model in flat_models():
            self.assertEqual(delay(model), 0)
            for number in (0, 1, 20):
                self.assertIsNone(undecided(model, number))

    def test_begin_and_change_costs_raised(self):
        seen = set()
        for model in CASES:
            for part, number in product(("begin", "change"), (-3, -2, -1, 1, 2, 3)):
                costs = model[0] if part == "begin" else sum(model[1], ())
                if 0 <= min(costs) + number and max(costs) + number <= 3:
                    self.assertEqual(delay(raised(model, part, number)), delay(model))
                    seen.add(delay(model))
        self.assertTrue({None, 0, 1} <= seen)

    def test_all_costs_multiplied(self):
        seen = set()
        for model in small_models():
            for number in (1, 2, 3):
                self.assertEqual(delay(times(model, number)), delay(model))
            seen.add(delay(model))
        self.assertTrue({None, 0, 1} <= seen)


class Undecided(unittest.TestCase):
    def test_the_first_ones_of_all(self):
        found = 0
        for model in CASES:
            for number in range(5 if len(model[0]) < 3 else 4):
                first = first_undecided(model, number, 3)
                told = undecided(model, number)
                if first is None:
                    self.assertTrue(told is None or len(told[0]) > 3)
                else:
                    self.assertEqual(told, first)
                    found += 1
        self.assertGreater(found, 40)

    def test_there_are_some_as_far_as_the_delay(self):
        longer = 0
        for model in CASES:
            number = delay(model)
            for many in range(21):
                told = undecided(model, many)
                if number is not None and number <= many:
                    self.assertIsNone(told)
                    continue
                signs, further = told
                self.assertEqual([type(part) for part in (told, *told)], [tuple] * 3)
                self.assertEqual(len(further), many)
                self.assertTrue(waits(model, signs, further))
                longer += many == 20
        self.assertGreater(longer, 3)

    def test_the_first_signs_of_all_for_twelve_further_ones(self):
        told = undecided(LATEST, 11)
        self.assertEqual(len(told[1]), 11)
        self.assertTrue(waits(LATEST, *told))
        # No lesser further signs behind these, and no lesser signs with whatever behind, leave the last time open.
        earlier = [signs for signs in all_signs(LATEST, len(told[0])) if signs]
        for signs in earlier[:earlier.index(told[0])]:
            self.assertFalse(any(self.left_open(signs, 11)))
        self.assertEqual(min(self.left_open(told[0], 11)), told[1])

    def left_open(self, signs, number):
        """The further signs, exactly so many, behind which the last time of the signs is open."""
        layer = {(): last_marked(quick_condition(LATEST, signs))}
        for _ in range(number):
            more = {}
            for further, marked in layer.items():
                for sign in kinds(LATEST) if is_open(LATEST, marked) else ():
                    more[further + (sign,)] = marked_with(LATEST, marked, sign)
            layer = more
        return [further for further, marked in layer.items() if is_open(LATEST, marked)]

    def test_what_some_models_have(self):
        self.assertEqual(undecided(TURNS, 0), ((1,), ()))
        self.assertEqual(undecided(TURNS, 20), ((1,), (0, 1) * 10))
        self.assertEqual(undecided(LATER, 0), ((0,), ()))
        self.assertIsNone(undecided(LATER, 1))


class MarkedConditions(unittest.TestCase):
    def test_open_ones_are_those_whose_time_is_not_sure(self):
        for model in MODELS:
            for signs in [signs for signs in all_signs(model, 2) if signs]:
                for further in all_signs(model, 3):
                    marked = marked_with_all(model, last_marked(quick_condition(model, signs)), further)
                    self.assertIs(is_open(model, marked), waits(model, signs, further))

    def test_what_is_sure_stays_so_and_all_before_it_is_sure(self):
        for model in (TURNS, LATER, THREE):
            for signs in [signs for signs in all_signs(model, 3) if signs]:
                for further in all_signs(model, 2):
                    open_here = waits(model, signs, further)
                    for sign in kinds(model):
                        self.assertLessEqual(waits(model, signs, further + (sign,)), open_here)
                    if len(signs) > 1:
                        self.assertLessEqual(waits(model, signs[:-1], signs[-1:] + further), open_here)


class TooMany(unittest.TestCase):
    def test_how_many_open_ones_come(self):
        for models, expected in ((FULL, (2000, 2000)), (TOO_FULL, (2001, 2001, 3914))):
            many = [len(web_of(model, [held for held, _ in all_conditions(model)])) for model in models]
            self.assertEqual(tuple(many), expected)

    def test_two_thousand_are_not_too_many(self):
        for model in FULL:
            self.assertIsNone(delay(model))
            for number in (0, 20):
                self.assertTrue(waits(model, *undecided(model, number)))

    def test_one_more_is(self):
        for model in TOO_FULL:
            for call in (delay, lambda model: undecided(model, 0), lambda model: undecided(model, 20)):
                with self.assertRaises(TooLarge) as caught:
                    call(model)
                self.assertEqual(caught.exception.what, "conditions")


if __name__ == "__main__":
    unittest.main()
