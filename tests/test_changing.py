"""Points 93 to 95: places, how often rows use them, and the best rows with a change or with so many uses."""

import unittest
from collections import Counter
from itertools import product

from surepast.best import best_row
from surepast.changing import best_changed, best_with, changed_cost, is_place, overtakes, uses
from surepast.models import cost_of
from tests.samples import (
    ALONE, DEAR, FREE, LATER, LEAST, MODELS, STRANGE, THREE, TOLD, TURNS, all_rows, all_signs, long_signs, plain_cost,
)

CHANGES = [-100, -7, -3, -2, -1, 0, 1, 2, 3, 6, 7, 100]


def places_of(model):
    """All places of the model, with their costs."""
    begin, change, show = model
    found = {("begin", state): cost for state, cost in enumerate(begin)}
    for part, table in (("change", change), ("show", show)):
        found.update({(part, at, to): cost for at, costs in enumerate(table) for to, cost in enumerate(costs)})
    return found


def plain_uses(signs, place, row):
    """Point 93, word by word."""
    if place[0] == "begin":
        return 1 if row and row[0] == place[1] else 0
    if place[0] == "change":
        return sum(row[at] == place[1] and row[at + 1] == place[2] for at in range(len(row) - 1))
    return sum(state == place[1] and sign == place[2] for state, sign in zip(row, signs))


def plain_changed(model, signs, place, by, row):
    """Point 94, word by word."""
    return plain_cost(model, signs, row) + by * plain_uses(signs, place, row)


def with_cost(model, place, cost):
    """The model with this cost at the place."""
    parts = [list(model[0]), [list(costs) for costs in model[1]], [list(costs) for costs in model[2]]]
    if place[0] == "begin":
        parts[0][place[1]] = cost
    else:
        parts[1 if place[0] == "change" else 2][place[1]][place[2]] = cost
    return (tuple(parts[0]), tuple(map(tuple, parts[1])), tuple(map(tuple, parts[2])))


def long_best(model, signs, place, by):
    """The best row with a change for signs that have too many rows, and its changed cost."""
    found = {None: (0, ())}
    for at, sign in enumerate(signs):
        later = {}
        for state in range(len(model[0])):
            ways = []
            for before, (cost, row) in found.items():
                come = ("change", before, state) if at else ("begin", state)
                costs = places_of(model)[come] + places_of(model)[("show", state, sign)]
                costs += by * (place == come) + by * (place == ("show", state, sign))
                ways.append((cost + costs, row + (state,)))
            later[state] = min(ways)
        found = later
    cost, row = min(found.values())
    return (row, cost)


def short_signs(model):
    return list(all_signs(model, 2)) + [long_signs(model, 1)[0][:3], long_signs(model, 2)[0][:5]]


class Places(unittest.TestCase):
    def test_those_of_each_kind(self):
        for model in MODELS:
            found = places_of(model)
            self.assertEqual(len(found), len(model[0]) * (1 + len(model[0]) + len(model[2][0])))
            for place in found:
                self.assertIs(is_place(place, model), True)

    def test_all_near_ones(self):
        numbers = (-1, 0, 1, 2, 3)
        for model in MODELS:
            found = places_of(model)
            values = [("begin", state) for state in numbers]
            values += [(word, state, other) for word in ("change", "show") for state in numbers for other in numbers]
            for value in values:
                self.assertIs(is_place(value, model), value in found, value)

    def test_states_and_signs_are_counted_apart(self):
        self.assertIs(is_place(("show", 0, 2), ALONE), True)
        self.assertIs(is_place(("show", 1, 0), ALONE), False)
        self.assertIs(is_place(("change", 0, 2), ALONE), False)
        self.assertIs(is_place(("change", 2, 2), FREE), True)
        self.assertIs(is_place(("show", 2, 1), FREE), True)
        self.assertIs(is_place(("show", 2, 2), FREE), False)
        self.assertIs(is_place(("show", 0, 1), LATER), False)

    def test_other_forms(self):
        wrong = STRANGE + [
            0, 1, (), (0,), (0, 0), (0, 0, 0), ("begin",), ("begin", 0, 0), ("begin", 0, 0, 0), ("change", 0), ("change",),
            ("show", 0), ("show", 0, 0, 0), ("change", 0, 0, 0), ["begin", 0], ["show", 0, 0], ("begin", "0"), ("begin", None),
            ("begin", True), ("begin", False), ("show", 0, True), ("show", False, 0), ("change", True, 0), ("change", 0, None),
            ("change", [0], 0), ("change", 0, (0,)), ("show", 0, 0.0), ("begin", 0.0), ("Begin", 0), ("SHOW", 0, 0), ("", 0),
            ("shows", 0, 0), ("changes", 0, 0), (None, 0), (b"begin", 0), (("begin",), 0), (["show"], 0, 0), ("begin", (0,)),
            "begin", "show", ("show", -1, 0), ("show", 0, -1), ("begin", 10 ** 30), {"begin": 0}, (True, 0), (0, "begin"),
        ]
        for model in (LEAST, TURNS, THREE):
            for value in wrong:
                self.assertIs(is_place(value, model), False, value)

    def test_the_model_is_not_checked(self):
        self.assertIs(is_place(("show", 0, 1), ((9,), ((9,),), ((9, -9),))), True)
        self.assertIs(is_place(("show", 0, 2), ((9,), ((9,),), ((9, -9),))), False)


class Uses(unittest.TestCase):
    def test_against_the_words(self):
        seen = set()
        for model in MODELS:
            for signs in short_signs(model):
                for row, place in product(all_rows(model, signs)[::3], places_of(model)):
                    self.assertEqual(uses(model, signs, place, row), plain_uses(signs, place, row))
                    seen.add((place[0], uses(model, signs, place, row)))
        self.assertTrue({("begin", 0), ("begin", 1), ("change", 4), ("show", 5)} <= seen)
        self.assertNotIn(("begin", 2), seen)

    def test_uses_times_costs_make_up_the_cost(self):
        for model in MODELS:
            rows = [(signs, row) for signs in short_signs(model) for row in all_rows(model, signs)[::5]]
            signs, long_rows = long_signs(model, 93)
            for signs, row in rows + [(signs, row) for row in long_rows]:
                costs = [cost * uses(model, signs, place, row) for place, cost in places_of(model).items()]
                self.assertEqual(sum(costs), cost_of(model, signs, row))

    def test_how_many_in_all(self):
        signs, rows = long_signs(THREE, 94)
        for row in rows:
            told = Counter()
            for place in places_of(THREE):
                told[place[0]] += uses(THREE, signs, place, row)
            self.assertEqual(told, {"begin": 1, "change": 19, "show": 20})

    def test_no_signs_and_all_alike(self):
        for place in places_of(THREE):
            self.assertEqual(uses(THREE, (), place, ()), 0)
        self.assertEqual(uses(ALONE, (2,) * 20, ("show", 0, 2), (0,) * 20), 20)
        self.assertEqual(uses(ALONE, (2,) * 20, ("show", 0, 1), (0,) * 20), 0)
        self.assertEqual(uses(ALONE, (2,) * 20, ("change", 0, 0), (0,) * 20), 19)
        self.assertEqual(uses(ALONE, (2,) * 20, ("begin", 0), (0,) * 20), 1)

    def test_changed_costs(self):
        for model in MODELS:
            for signs in short_signs(model)[-4:]:
                for row, place, by in product(all_rows(model, signs)[::7], places_of(model), (-100, -1, 0, 3, 100)):
                    self.assertEqual(changed_cost(model, signs, place, by, row), plain_changed(model, signs, place, by, row))

    def test_a_changed_cost_is_the_cost_in_the_changed_model(self):
        for model in MODELS:
            signs, rows = long_signs(model, 95)
            for place, cost in places_of(model).items():
                for new, row in product(range(4), rows[:3]):
                    told = cost_of(with_cost(model, place, new), signs, row)
                    self.assertEqual(changed_cost(model, signs, place, new - cost, row), told)

    def test_changed_costs_far_below_nought(self):
        self.assertEqual(changed_cost(LEAST, (0,) * 20, ("show", 0, 0), -100, (0,) * 20), -2000)
        self.assertEqual(changed_cost(DEAR, (0,) * 20, ("show", 0, 0), 100, (0,) * 20), 2120)


class BestWith(unittest.TestCase):
    def told_by_words(self, model, signs, place, many):
        """Point 95, word by word."""
        rows = [row for row in all_rows(model, signs) if plain_uses(signs, place, row) == many]
        if not rows:
            return None
        cost, row = min((plain_cost(model, signs, row), row) for row in rows)
        return (row, cost)

    def test_against_all_rows(self):
        none, some = 0, 0
        for model in MODELS:
            for signs in short_signs(model):
                for place in places_of(model):
                    for many in (0, 1, 2, 3, 4, 5, 6, 19, 20):
                        told = best_with(model, signs, place, many)
                        if many > len(signs):
                            self.assertIsNone(told)
                        else:
                            self.assertEqual(told, self.told_by_words(model, signs, place, many))
                            none, some = none + (told is None), some + (told is not None)
        self.assertGreater(min(none, some), 1000)

    def test_twenty_uses(self):
        self.assertEqual(best_with(ALONE, (2,) * 20, ("show", 0, 2), 20), ((0,) * 20, 41))
        self.assertIsNone(best_with(ALONE, (2,) * 20, ("show", 0, 2), 19))
        self.assertIsNone(best_with(ALONE, (2,) * 20, ("change", 0, 0), 20))
        self.assertEqual(best_with(ALONE, (2,) * 20, ("change", 0, 0), 19), ((0,) * 20, 41))
        self.assertEqual(best_with(THREE, (1,) * 20, ("show", 2, 1), 20)[0], (2,) * 20)
        self.assertEqual(best_with(TURNS, (1,) * 20, ("show", 0, 1), 20), ((0,) * 20, 20))
        self.assertIsNone(best_with(TURNS, (1,) * 19 + (0,), ("show", 0, 1), 20))

    def test_no_signs(self):
        for model in MODELS:
            for place in places_of(model):
                self.assertEqual(best_with(model, (), place, 0), ((), 0))
                for many in (1, 2, 20):
                    self.assertIsNone(best_with(model, (), place, many))

    def test_the_number_is_exact(self):
        for model in MODELS:
            signs = long_signs(model, 96)[0]
            for place in list(places_of(model))[::4]:
                found = [best_with(model, signs, place, many) for many in range(21)]
                for many, told in enumerate(found):
                    if told is not None:
                        self.assertEqual(plain_uses(signs, place, told[0]), many)
                        self.assertEqual(plain_cost(model, signs, told[0]), told[1])
                best = min((cost, row) for row, cost in [told for told in found if told is not None])
                self.assertEqual(best, best_row(model, signs)[::-1])

    def test_kinds_of_what_is_returned(self):
        told = best_with(THREE, (0, 1), ("begin", 0), 1)
        self.assertEqual([type(part) for part in (told, *told)], [tuple, tuple, int])
        told = best_changed(THREE, (0, 1), ("begin", 0), 1)
        self.assertEqual([type(part) for part in (told, *told)], [tuple, tuple, int])


class BestChanged(unittest.TestCase):
    def test_against_all_rows(self):
        moved = 0
        for model in MODELS:
            for signs in short_signs(model):
                for place, by in product(list(places_of(model))[len(signs) % 2::2], CHANGES):
                    cost, row = min((plain_changed(model, signs, place, by, row), row) for row in all_rows(model, signs))
                    self.assertEqual(best_changed(model, signs, place, by), (row, cost))
                    moved += row != best_row(model, signs)[0]
        self.assertGreater(moved, 1000)

    def test_no_change(self):
        for model in MODELS:
            for signs in short_signs(model) + [long_signs(model, 97)[0]]:
                for place in places_of(model):
                    self.assertEqual(best_changed(model, signs, place, 0), best_row(model, signs))

    def test_twenty_signs(self):
        for model in (TOLD, TURNS, LATER, THREE, FREE, DEAR) + tuple(MODELS[8:14]):
            signs = long_signs(model, 98)[0]
            for place, by in product(list(places_of(model))[::2], (-100, -1, 1, 3, 100)):
                self.assertEqual(best_changed(model, signs, place, by), long_best(model, signs, place, by))

    def test_twenty_signs_in_the_changed_model(self):
        for model in MODELS:
            signs = long_signs(model, 99)[0]
            for place, cost in places_of(model).items():
                for new in range(4):
                    told = best_changed(model, signs, place, new - cost)
                    self.assertEqual(told, best_row(with_cost(model, place, new), signs))

    def test_it_is_one_of_the_best_ones_with_so_many_uses(self):
        for model in MODELS:
            signs = long_signs(model, 100)[0]
            for place, by in product(list(places_of(model))[::3], (-100, -2, 1, 100)):
                row, cost = best_changed(model, signs, place, by)
                many = uses(model, signs, place, row)
                self.assertEqual(best_with(model, signs, place, many), (row, cost - by * many))

    def test_great_changes_ask_for_most_and_fewest_uses(self):
        for model in MODELS:
            signs = long_signs(model, 101)[0][:6]
            for place in places_of(model):
                able = [many for many in range(7) if best_with(model, signs, place, many) is not None]
                self.assertEqual(uses(model, signs, place, best_changed(model, signs, place, -100)[0]), max(able))
                self.assertEqual(uses(model, signs, place, best_changed(model, signs, place, 100)[0]), min(able))

    def test_no_signs(self):
        for model in MODELS:
            for place, by in product(places_of(model), (-100, 0, 100)):
                self.assertEqual(best_changed(model, (), place, by), ((), 0))
                self.assertEqual(changed_cost(model, (), place, by, ()), 0)
                self.assertIs(overtakes(model, (), place, by, ()), False)


if __name__ == "__main__":
    unittest.main()
