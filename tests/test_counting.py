"""Points 74 to 80 and 82: signs counted by how many times they leave open."""

import unittest
from itertools import product
from random import Random

from surepast.counting import count_open, index_open, nth_open, worst_signs
from surepast.delays import delay, undecided
from surepast.errors import BadValue, PastError
from surepast.sure import sure_states
from tests.reckoning import kinds, many_sure
from tests.samples import (
    ALONE, DELAYED, FREE, LATER, LATEST, MODELS, THREE, TOO_FULL, TURNS, all_signs, flat_models,
)

CASES = MODELS + DELAYED + [LATEST]


def all_of(model, length):
    return list(product(kinds(model), repeat=length))


def left_open(model, signs):
    """Point 74: how many times the signs leave open."""
    return len(signs) - many_sure(model, signs)


def by_numbers(model, length):
    """For each number of times the list of the signs of the length that leave so many open, ascending."""
    found = [[] for _ in range(length + 1)]
    for signs in all_of(model, length):
        found[left_open(model, signs)].append(signs)
    return found


def short_lengths(model):
    return range(7 if len(kinds(model)) < 3 else 5)


class Numbers(unittest.TestCase):
    def test_against_all_signs(self):
        for model in CASES:
            for length in short_lengths(model):
                told = count_open(model, length)
                self.assertEqual(told, tuple(len(signs) for signs in by_numbers(model, length)))

    def test_the_open_times_are_those_that_are_not_sure(self):
        for model in MODELS:
            for signs in all_signs(model, 3):
                self.assertEqual(left_open(model, signs), len(signs) - len(sure_states(model, signs)))
                self.assertEqual(index_open(model, signs)[0], len(signs) - len(sure_states(model, signs)))

    def test_they_make_up_all_signs(self):
        for model in CASES + TOO_FULL:
            for length in range(13):
                told = count_open(model, length)
                self.assertEqual((type(told), len(told)), (tuple, length + 1))
                self.assertEqual({type(number) for number in told}, {int})
                self.assertEqual(sum(told), len(kinds(model)) ** length)

    def test_eight_and_twelve_signs(self):
        for model in (TURNS, DELAYED[0], DELAYED[4]):
            for length in (8, 12):
                told = [0] * (length + 1)
                for signs in all_of(model, length):
                    told[left_open(model, signs)] += 1
                self.assertEqual(count_open(model, length), tuple(told))

    def test_no_signs(self):
        for model in CASES:
            self.assertEqual(count_open(model, 0), (1,))
            self.assertEqual(index_open(model, ()), (0, 0))
            self.assertEqual(nth_open(model, 0, 0, 0), ())
            self.assertEqual(worst_signs(model, 0), ())

    def test_changes_to_each_state_alike_and_one_state(self):
        for model in flat_models():
            for length in range(13):
                self.assertEqual(count_open(model, length), (len(kinds(model)) ** length,) + (0,) * length)
                self.assertEqual(worst_signs(model, length), (0,) * length)

    def test_no_more_than_the_delay(self):
        seen = 0
        for model in CASES:
            number = delay(model)
            if number is not None:
                for length in range(13):
                    self.assertEqual(sum(count_open(model, length)[number + 1:]), 0)
                seen += sum(count_open(model, 12)[number:]) > 0
        self.assertGreater(seen, 15)

    def test_more_than_each_lesser_number(self):
        seen = 0
        for model in CASES:
            for number in range(6 if delay(model) is None else delay(model)):
                signs, further = undecided(model, number)
                if len(signs + further) <= 12:
                    self.assertGreater(index_open(model, signs + further)[0], number)
                    self.assertGreater(sum(count_open(model, len(signs + further))[number + 1:]), 0)
                    seen += 1
        self.assertGreater(seen, 50)

    def test_point_82(self):
        self.assertEqual(count_open(TURNS, 2), (2, 1, 1))
        self.assertEqual([nth_open(TURNS, 2, 0, index) for index in (0, 1)], [(0, 0), (1, 1)])
        self.assertEqual(nth_open(TURNS, 2, 1, 0), (0, 1))
        self.assertEqual(nth_open(TURNS, 2, 2, 0), (1, 0))


class Indexes(unittest.TestCase):
    def test_each_number_and_index(self):
        for model in CASES:
            for length in short_lengths(model):
                for number, all_ones in enumerate(by_numbers(model, length)):
                    for index, signs in enumerate(all_ones):
                        self.assertEqual(nth_open(model, length, number, index), signs)
                        self.assertEqual(index_open(model, signs), (number, index))

    def test_each_index_too_great_by_one(self):
        for model in CASES:
            for length in short_lengths(model):
                for number, many in enumerate(count_open(model, length)):
                    for index in (many, many + 1, -1):
                        with self.assertRaises(PastError) as caught:
                            nth_open(model, length, number, index)
                        self.assertIs(type(caught.exception), BadValue)
                        self.assertEqual(caught.exception.name, "index")

    def test_twelve_signs(self):
        source = Random(77)
        for model in MODELS[:5] + DELAYED[3:] + [LATEST, TOO_FULL[2]]:
            for number, many in enumerate(count_open(model, 12)):
                if many == 0 or (model in TOO_FULL and number % 5 > 0):
                    continue
                picked = sorted({0, many // 2, many - 1, source.randrange(many)})
                told = [nth_open(model, 12, number, index) for index in picked]
                self.assertEqual(told, sorted(told))
                for signs, index in zip(told, picked):
                    self.assertEqual(len(signs), 12)
                    self.assertEqual(left_open(model, signs), number)
                    self.assertEqual(index_open(model, signs), (number, index))

    def test_all_indexes_of_twelve_signs(self):
        for model in (TURNS, DELAYED[5]):
            seen = [0] * 13
            for signs in all_of(model, 12)[::37]:
                number, index = index_open(model, signs)
                self.assertEqual(number, left_open(model, signs))
                self.assertEqual(nth_open(model, 12, number, index), signs)
                self.assertGreaterEqual(index, seen[number])
                seen[number] = index + 1

    def test_neighbours_are_next_to_each_other(self):
        found = by_numbers(DELAYED[0], 10)
        for number, all_ones in enumerate(found):
            for index in range(0, len(all_ones), 11):
                self.assertEqual(nth_open(DELAYED[0], 10, number, index), all_ones[index])

    def test_kinds_of_what_is_returned(self):
        for model in (ALONE, TURNS, THREE):
            signs = nth_open(model, 3, 0, 0)
            self.assertEqual([type(part) for part in (signs, *signs)], [tuple, int, int, int])
            told = index_open(model, (0, 0))
            self.assertEqual([type(part) for part in (told, *told)], [tuple, int, int])
            self.assertIs(type(worst_signs(model, 4)), tuple)


class Worst(unittest.TestCase):
    def test_against_all_signs(self):
        for model in CASES:
            for length in short_lengths(model):
                worst = [all_ones for all_ones in by_numbers(model, length) if all_ones][-1]
                self.assertEqual(worst_signs(model, length), worst[0])

    def test_twelve_signs(self):
        for model in (TURNS, LATER, FREE, DELAYED[0], DELAYED[1]):
            most = max(left_open(model, signs) for signs in all_of(model, 12))
            first = [signs for signs in all_of(model, 12) if left_open(model, signs) == most][0]
            self.assertEqual(worst_signs(model, 12), first)

    def test_the_first_one_with_the_greatest_number(self):
        for model in CASES + TOO_FULL:
            numbers = count_open(model, 12)
            greatest = max(number for number, many in enumerate(numbers) if many)
            self.assertEqual(worst_signs(model, 12), nth_open(model, 12, greatest, 0))

    def test_what_some_models_have(self):
        self.assertEqual(worst_signs(TURNS, 3), (1, 0, 1))
        self.assertEqual(worst_signs(TURNS, 12), (1, 0) * 6)
        self.assertEqual(worst_signs(LATER, 12), (0,) * 12)


if __name__ == "__main__":
    unittest.main()
