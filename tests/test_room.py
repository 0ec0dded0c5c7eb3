"""Points 96 to 100: how far a cost can change, and rows that overtake the best one."""

import unittest
from itertools import product

from surepast.best import best_row
from surepast.changing import best_changed, overtakes, room, uses
from tests.samples import (
    ALONE, DEAR, FREE, LEAST, MODELS, STRANGE, THREE, TOLD, TURNS, all_rows, all_signs, long_signs, small_models, times,
)
from tests.test_changing import places_of, plain_changed, plain_uses

# A row for five signs costs at most 30 more than the best one: so whatever overtakes it does so with a change of 31.
FAR = 35


def best_by(model, signs, place, by):
    return min((plain_changed(model, signs, place, by, row), row) for row in all_rows(model, signs))[1]


def plain_room(model, signs, place):
    """Point 96, word by word, change by change, for at most five signs."""
    best = best_by(model, signs, place, 0)
    ends = []
    for side in (-1, 1):
        end = 0
        while end < FAR and best_by(model, signs, place, side * (end + 1)) == best:
            end += 1
        ends.append(end if end < FAR else None)
    return tuple(ends)


def some_signs(model):
    return list(all_signs(model, 2)) + [long_signs(model, 1)[0][:3]]


def is_within(told, by):
    down, up = told
    return (down is None or by >= -down) and (up is None or by <= up)


class Room(unittest.TestCase):
    def test_against_all_rows(self):
        seen = set()
        for model in MODELS:
            for signs in some_signs(model):
                for place in places_of(model):
                    told = room(model, signs, place)
                    self.assertEqual(told, plain_room(model, signs, place))
                    seen.add(told)
        self.assertTrue({(None, None), (None, 0), (0, None), (0, 0), (None, 1), (1, None), (1, 1), (2, 1)} <= seen)

    def test_four_and_five_signs(self):
        for model in MODELS[:16]:
            for signs in (long_signs(model, 2)[0][:4], long_signs(model, 3)[0][:5]):
                for place in list(places_of(model))[::3 if len(model[0]) < 3 else 9]:
                    self.assertEqual(room(model, signs, place), plain_room(model, signs, place))

    def test_both_ends_and_one_beyond_them(self):
        ends = 0
        for model in MODELS:
            for signs in some_signs(model) + [long_signs(model, 4)[0]]:
                best = best_row(model, signs)[0]
                for place in places_of(model):
                    down, up = room(model, signs, place)
                    for side, end in ((-1, down), (1, up)):
                        if end is not None and end < 100:
                            self.assertEqual(best_changed(model, signs, place, side * end)[0], best)
                            self.assertNotEqual(best_changed(model, signs, place, side * (end + 1))[0], best)
                            ends += 1
                        else:
                            self.assertEqual(best_changed(model, signs, place, side * 100)[0], best)
        self.assertGreater(ends, 1000)

    def test_every_change_within_and_no_other_one(self):
        for model in MODELS:
            for signs in (long_signs(model, 5)[0], long_signs(model, 6)[0][:9]):
                best = best_row(model, signs)[0]
                for place in list(places_of(model))[::5]:
                    told = room(model, signs, place)
                    for by in (-100, -40, -13, -5, -4, -3, -2, -1, 0, 1, 2, 3, 4, 5, 13, 40, 100):
                        self.assertIs(best_changed(model, signs, place, by)[0] == best, is_within(told, by))

    def test_none_to_either_side(self):
        sides = {(True, True): 0, (True, False): 0, (False, True): 0, (False, False): 0}
        for model in MODELS:
            for signs in some_signs(model):
                best = best_row(model, signs)[0]
                for place in places_of(model):
                    numbers = [plain_uses(signs, place, row) for row in all_rows(model, signs)]
                    none_less = min(numbers) == plain_uses(signs, place, best)
                    none_more = max(numbers) == plain_uses(signs, place, best)
                    down, up = room(model, signs, place)
                    self.assertEqual((down is None, up is None), (none_more, none_less))
                    sides[none_more, none_less] += 1
        self.assertGreater(min(sides.values()), 20)

    def test_a_place_that_the_best_row_does_not_use(self):
        seen = 0
        for model in MODELS:
            for signs in some_signs(model) + [long_signs(model, 7)[0]]:
                for place in places_of(model):
                    if uses(model, signs, place, best_row(model, signs)[0]) == 0:
                        self.assertIsNone(room(model, signs, place)[1])
                        seen += 1
        self.assertGreater(seen, 1000)

    def test_no_signs_and_one_state(self):
        for model in MODELS:
            for place in places_of(model):
                self.assertEqual(room(model, (), place), (None, None))
        for model in [ALONE, LEAST] + [model for model in MODELS if len(model[0]) == 1]:
            for signs in list(all_signs(model, 2)) + [long_signs(model, 8)[0]]:
                for place in places_of(model):
                    self.assertEqual(room(model, signs, place), (None, None))

    def test_rows_that_cost_as_much(self):
        # The lesser row stays the best one where both cost the same, and the greater one does not overtake it.
        self.assertEqual(room(FREE, (0,), ("begin", 0)), (None, 0))
        self.assertEqual(room(FREE, (0,), ("begin", 1)), (0, None))
        self.assertEqual(room(((0, 1), ((0, 0), (0, 0)), ((0,), (0,))), (0,), ("begin", 0)), (None, 1))
        self.assertEqual(room(((1, 0), ((0, 0), (0, 0)), ((0,), (0,))), (0,), ("begin", 1)), (None, 0))
        self.assertEqual(room(((1, 0), ((0, 0), (0, 0)), ((0,), (0,))), (0,), ("begin", 0)), (0, None))
        self.assertEqual(room(((2, 0), ((0, 0), (0, 0)), ((0,), (0,))), (0,), ("begin", 1)), (None, 1))

    def test_rows_that_gain_by_several_uses(self):
        # The rows of one state alone cost 0 and 3; all others cost at least 3.
        rooms = [(None, 3), (None, 1), (None, 1), (None, 0), (None, 0)]
        for many, told in enumerate(rooms, start=1):
            self.assertEqual(room(((0, 3), ((0, 3), (3, 0)), ((0,), (0,))), (0,) * many, ("show", 0, 0)), told)
        # With three signs and 1 more, both cost 3: and now the other row is the lesser one.
        rooms = [(None, 2), (None, 1), (None, 0), (None, 0), (None, 0)]
        for many, told in enumerate(rooms, start=1):
            self.assertEqual(room(((3, 0), ((0, 3), (3, 0)), ((0,), (0,))), (0,) * many, ("show", 1, 0)), told)

    def test_all_costs_multiplied_by_2(self):
        seen = set()
        for model in small_models():
            for signs in list(all_signs(model, 3)) + [long_signs(model, 9)[0]]:
                twice = times(model, 2)
                self.assertEqual(best_row(twice, signs)[0], best_row(model, signs)[0])
                for place in places_of(model):
                    for number, greater in zip(room(model, signs, place), room(twice, signs, place)):
                        if number is None:
                            self.assertIsNone(greater)
                        else:
                            self.assertIn(greater - 2 * number, (0, 1))
                            seen.add(greater - 2 * number)
        self.assertEqual(seen, {0, 1})

    def test_kinds_of_what_is_returned(self):
        for place in places_of(THREE):
            told = room(THREE, (0, 1, 2), place)
            self.assertIs(type(told), tuple)
            self.assertTrue({type(number) for number in told} <= {int, type(None)})


class Overtaking(unittest.TestCase):
    def test_against_all_rows(self):
        told_of = {True: 0, False: 0}
        for model in MODELS:
            for signs in some_signs(model):
                best = best_row(model, signs)[0]
                for place, by in product(list(places_of(model))[::2], (-100, -2, -1, 0, 1, 3, 100)):
                    here = (plain_changed(model, signs, place, by, best), best)
                    for row in all_rows(model, signs):
                        told = overtakes(model, signs, place, by, row)
                        self.assertIs(told, (plain_changed(model, signs, place, by, row), row) < here)
                        told_of[told] += 1
        self.assertGreater(min(told_of.values()), 1000)

    def test_it_is_the_best_one_without_a_change_that_is_overtaken(self):
        # With the change both other rows are better than the row 0, and so they overtake, the lesser one too.
        model = ((0, 1, 1), ((0, 0, 0),) * 3, ((0,),) * 3)
        self.assertEqual(best_changed(model, (0,), ("begin", 0), 3)[0], (1,))
        self.assertEqual([overtakes(model, (0,), ("begin", 0), 3, (state,)) for state in range(3)], [False, True, True])
        self.assertEqual([overtakes(model, (0,), ("begin", 0), 1, (state,)) for state in range(3)], [False, False, False])

    def test_not_within_the_room(self):
        seen = {True: 0, False: 0}
        for model in MODELS:
            signs = long_signs(model, 10)[0]
            for place, by in product(list(places_of(model))[::2], (-100, -2, -1, 0, 1, 2, 100)):
                row = best_changed(model, signs, place, by)[0]
                within = is_within(room(model, signs, place), by)
                self.assertIs(overtakes(model, signs, place, by, row), not within)
                seen[within] += 1
        self.assertGreater(min(seen.values()), 300)

    def test_other_forms(self):
        wrong = STRANGE + [
            0, 1, (), (1,), (1, 1), (1, 1, 1, 1), [1, 1, 1], "111", (1, 1, True), (True, True, True), (1, 1, 1.0), (1, 1, 2),
            (1, 1, -1), (1, 1, None), (1, 1, "1"), ((1,), (1,), (1,)), ((1, 1, 1),), {0: 1, 1: 1, 2: 1}, (1,) * 20, (1,) * 21,
            (1, 1, (1,)), (10 ** 30,) * 3,
        ]
        self.assertIs(overtakes(TURNS, (0, 0, 1), ("begin", 0), 2, (1, 1, 1)), True)
        for by in (-100, -1, 0, 1, 2, 100):
            for place in places_of(TURNS):
                for value in wrong:
                    self.assertIs(overtakes(TURNS, (0, 0, 1), place, by, value), False, value)

    def test_false_and_true_are_no_states(self):
        self.assertIs(overtakes(TOLD, (0,), ("begin", 0), 100, (1,)), True)
        self.assertIs(overtakes(TOLD, (0,), ("begin", 0), 100, (True,)), False)
        self.assertIs(overtakes(DEAR, (0,), ("begin", 0), 100, (1.0,)), False)


if __name__ == "__main__":
    unittest.main()
