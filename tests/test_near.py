"""Points 83 to 85, 89 and 90: the rows near the best one, counted from it on."""

import unittest
from random import Random

from surepast.best import best_row
from surepast.errors import BadValue, PastError
from surepast.made import raised, renamed
from surepast.models import is_model
from surepast.near import count_near, index_of_near, nth_near, second_best
from tests.all_of_them import near_rows, number_better, number_up_to, ranked, two_best
from tests.samples import (
    ALONE, DEAR, FREE, LATER, LEAST, MODELS, THREE, TOLD, TURNS, all_rows, all_signs, flat_models, long_signs, plain_cost,
)

MARGINS = range(31)


def short_signs(model):
    """All signs of at most three, and some of four and five."""
    return list(all_signs(model, 3)) + [long_signs(model, 1)[0][:4], long_signs(model, 2)[0][:5]]


def raised_models(model):
    """The model raised in each part by each number that it allows, as pairs of the model and the part."""
    found = []
    for part in ("begin", "change", "show"):
        for number in range(-3, 4):
            try:
                found.append(raised(model, part, number))
            except PastError:
                continue
    return found


class Numbers(unittest.TestCase):
    def test_against_all_rows_within_every_margin(self):
        for model in MODELS:
            for signs in short_signs(model):
                for margin in MARGINS:
                    self.assertEqual(count_near(model, signs, margin), len(near_rows(model, signs, margin)))

    def test_the_edge_of_a_margin(self):
        # The second row costs 3, and the best one costs 1.
        self.assertEqual([cost for cost, _ in ranked(TOLD, (0, 1, 1))[:3]], [1, 3, 4])
        self.assertEqual([count_near(TOLD, (0, 1, 1), margin) for margin in (0, 1, 2, 3)], [1, 1, 2, 5])

    def test_no_signs(self):
        for model in MODELS:
            for margin in MARGINS:
                self.assertEqual(count_near(model, (), margin), 1)
                self.assertEqual(nth_near(model, (), margin, 0), ())
                self.assertEqual(index_of_near(model, (), margin, ()), 0)

    def test_twenty_signs(self):
        for model in MODELS:
            signs = long_signs(model, 83)[0]
            for margin in (0, 1, 2, 7, 29, 30):
                self.assertEqual(count_near(model, signs, margin), number_up_to(model, signs, margin))

    def test_all_rows_of_twenty_cost_the_same(self):
        for model in (FREE, DEAR):
            for margin in MARGINS:
                self.assertEqual(count_near(model, (0, 1) * 10, margin), 3 ** 20)

    def test_margin_0_and_the_rows_that_cost_as_little(self):
        seen = set()
        for model in MODELS:
            for signs in short_signs(model):
                costs = [cost for cost, _ in ranked(model, signs)]
                self.assertEqual(count_near(model, signs, 0), costs.count(min(costs)))
                seen.add(costs.count(min(costs)))
        self.assertTrue({1, 2, 3} <= seen)

    def test_margin_30_and_five_signs(self):
        for model in MODELS:
            for many in range(6):
                for seed in range(4):
                    signs = long_signs(model, seed)[0][:many]
                    self.assertEqual(count_near(model, signs, 30), len(model[0]) ** many)

    def test_six_signs_that_are_too_dear_for_margin_30(self):
        model = ((0, 3), ((0, 3), (3, 3)), ((0,), (3,)))
        self.assertEqual(count_near(model, (0,) * 5, 30), 2 ** 5)
        costs = [cost for cost, _ in ranked(model, (0,) * 6)]
        self.assertEqual((min(costs), max(costs)), (0, 36))
        self.assertEqual(count_near(model, (0,) * 6, 30), sum(cost <= 30 for cost in costs))
        self.assertIsNone(index_of_near(model, (0,) * 6, 30, (1,) * 6))

    def test_a_greater_margin_has_at_least_as_many(self):
        for model in MODELS:
            for signs in (long_signs(model, 3)[0], long_signs(model, 4)[0][:9]):
                numbers = [count_near(model, signs, margin) for margin in MARGINS]
                self.assertEqual(numbers, sorted(numbers))
                self.assertGreaterEqual(numbers[0], 1)


class Indexes(unittest.TestCase):
    def test_all_of_them(self):
        for model in MODELS:
            for signs in short_signs(model):
                for margin in (0, 3, 30):
                    rows = near_rows(model, signs, margin)
                    self.assertEqual([nth_near(model, signs, margin, index) for index in range(len(rows))], rows)
                    self.assertEqual([index_of_near(model, signs, margin, row) for row in rows], list(range(len(rows))))

    def test_within_every_margin(self):
        for model in MODELS:
            for signs in all_signs(model, 2):
                for margin in MARGINS:
                    rows = near_rows(model, signs, margin)
                    for index, row in enumerate(rows):
                        self.assertEqual(nth_near(model, signs, margin, index), row)
                        self.assertEqual(index_of_near(model, signs, margin, row), index)

    def test_rows_that_are_not_near(self):
        seen = 0
        for model in MODELS:
            for signs in short_signs(model):
                for margin in (0, 1, 3, 8):
                    near = set(near_rows(model, signs, margin))
                    for row in all_rows(model, signs):
                        if row not in near:
                            self.assertIsNone(index_of_near(model, signs, margin, row))
                            seen += 1
        self.assertGreater(seen, 1000)

    def test_an_index_too_great_and_one_too_small(self):
        for model in MODELS:
            for signs in all_signs(model, 2):
                for margin in (0, 2, 30):
                    for index in (-1, len(near_rows(model, signs, margin))):
                        with self.assertRaises(PastError) as caught:
                            nth_near(model, signs, margin, index)
                        self.assertIs(type(caught.exception), BadValue)
                        self.assertEqual(caught.exception.name, "index")

    def test_the_best_row_has_the_index_0(self):
        for model in MODELS:
            for signs in short_signs(model) + [long_signs(model, 9)[0]]:
                row = best_row(model, signs)[0]
                for margin in (0, 5, 30):
                    self.assertEqual(nth_near(model, signs, margin, 0), row)
                    self.assertEqual(index_of_near(model, signs, margin, row), 0)

    def test_kinds_of_what_is_returned(self):
        for model in (ALONE, TURNS, THREE):
            row = nth_near(model, (0, 0), 30, 0)
            self.assertEqual([type(part) for part in (row, *row)], [tuple, int, int])
            self.assertIs(type(count_near(model, (0, 0), 30)), int)
            self.assertIs(type(index_of_near(model, (0, 0), 30, row)), int)


class TwentySigns(unittest.TestCase):
    def picked(self, source, many):
        return sorted({0, 1 % many, many // 3, many - 1, source.randrange(many), source.randrange(many)})

    def test_index_and_row_lead_to_each_other(self):
        source = Random(85)
        for model in MODELS:
            signs = long_signs(model, 84)[0]
            for margin in (0, 3, 30):
                indexes = self.picked(source, count_near(model, signs, margin))
                rows = [nth_near(model, signs, margin, index) for index in indexes]
                costs = [plain_cost(model, signs, row) for row in rows]
                self.assertEqual(sorted(zip(costs, rows)), list(zip(costs, rows)))
                self.assertLessEqual(costs[-1], best_row(model, signs)[1] + margin)
                for index, row in zip(indexes, rows):
                    self.assertEqual(len(row), 20)
                    self.assertEqual(index_of_near(model, signs, margin, row), index)

    def test_a_greater_margin_leaves_indexes_as_they_are(self):
        source = Random(86)
        for model in MODELS:
            signs = long_signs(model, 85)[0]
            for margin in (0, 2, 6):
                for index in self.picked(source, count_near(model, signs, margin)):
                    row = nth_near(model, signs, margin, index)
                    for greater in (margin + 1, 30):
                        self.assertEqual(nth_near(model, signs, greater, index), row)
                        self.assertEqual(index_of_near(model, signs, greater, row), index)

    def test_indexes_and_how_many_rows_are_better(self):
        for model in (TOLD, TURNS, THREE) + tuple(MODELS[8:14]):
            signs, rows = long_signs(model, 86)
            near = count_near(model, signs, 30)
            for row in rows[:2] + [nth_near(model, signs, 30, near // 2), nth_near(model, signs, 30, near - 1)]:
                better = number_better(model, signs, row)
                self.assertEqual(index_of_near(model, signs, 30, row), better if better < near else None)

    def test_rows_that_cost_the_same_are_numbers_with_three_digits(self):
        row = (0, 2, 1, 0) * 5
        index = int("".join(map(str, row)), 3)
        for model in (FREE, DEAR):
            self.assertEqual(index_of_near(model, (0, 1) * 10, 0, row), index)
            self.assertEqual(nth_near(model, (0, 1) * 10, 0, index), row)
            self.assertEqual(nth_near(model, (0, 1) * 10, 30, 3 ** 20 - 1), (2,) * 20)


class SecondBest(unittest.TestCase):
    def test_against_all_rows(self):
        for model in MODELS:
            for signs in short_signs(model):
                rows = ranked(model, signs)
                self.assertEqual(second_best(model, signs), rows[1][1] if len(rows) > 1 else None)

    def test_one_row_only(self):
        for model in MODELS:
            self.assertIsNone(second_best(model, ()))
        for model in (ALONE, LEAST):
            for many in range(21):
                self.assertIsNone(second_best(model, (0,) * many))

    def test_twenty_signs(self):
        for model in MODELS:
            for seed in range(4):
                signs = long_signs(model, seed)[0]
                if len(model[0]) > 1:
                    self.assertEqual([best_row(model, signs)[0], second_best(model, signs)], two_best(model, signs))

    def test_it_can_cost_far_more_and_as_much(self):
        self.assertEqual(second_best(((0, 3), ((0, 3), (3, 3)), ((0,), (3,))), (0,)), (1,))
        self.assertEqual(second_best(FREE, (0,) * 20), (0,) * 19 + (1,))
        self.assertEqual(second_best(LATER, (0,)), (0,))

    def test_it_has_the_index_1(self):
        for model in flat_models() + MODELS:
            for signs in short_signs(model):
                row = second_best(model, signs)
                if row is not None:
                    self.assertEqual(index_of_near(model, signs, 30, row), 1)


class RaisedAndRenamed(unittest.TestCase):
    def test_the_same_rows_with_the_same_indexes(self):
        seen = 0
        for model in MODELS:
            for other in raised_models(model):
                for signs in all_signs(model, 2):
                    for margin in (0, 2, 30):
                        many = count_near(model, signs, margin)
                        self.assertEqual(count_near(other, signs, margin), many)
                        for index in range(many):
                            row = nth_near(model, signs, margin, index)
                            self.assertEqual(nth_near(other, signs, margin, index), row)
                            self.assertEqual(index_of_near(other, signs, margin, row), index)
                            seen += other != model
        self.assertGreater(seen, 1000)

    def test_twenty_signs(self):
        for model in MODELS:
            signs = long_signs(model, 90)[0]
            many = count_near(model, signs, 4)
            for other in raised_models(model):
                self.assertTrue(is_model(other))
                self.assertEqual(count_near(other, signs, 4), many)
                for index in (0, many // 2, many - 1):
                    self.assertEqual(nth_near(other, signs, 4, index), nth_near(model, signs, 4, index))

    def test_renamed_rows_are_near(self):
        moved = 0
        for model in (THREE, FREE) + tuple(model for model in MODELS[8:] if len(model[0]) == 3):
            order = (1, 2, 0)
            other = renamed(model, order)
            for signs in all_signs(model, 2):
                for margin in (0, 2):
                    rows = [nth_near(model, signs, margin, index) for index in range(count_near(model, signs, margin))]
                    new = [tuple(order[state] for state in row) for row in rows]
                    indexes = [index_of_near(other, signs, margin, row) for row in new]
                    self.assertEqual(sorted(indexes), list(range(len(rows))))
                    self.assertEqual(count_near(other, signs, margin), len(rows))
                    moved += indexes != sorted(indexes)
        self.assertGreater(moved, 10)


if __name__ == "__main__":
    unittest.main()
