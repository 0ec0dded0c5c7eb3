"""Points 43, 47, 48 and 50: open times, the told signs for them, and the evidence for it."""

import unittest
from itertools import product

from surepast.best import best_row, ending_row
from surepast.futures import profiles
from surepast.sure import accepts_sure, sure_states, survivors
from surepast.waiting import accepts_open, open_time, told_signs
from tests.samples import (
    ALONE, FREE, LATER, MODELS, STRANGE, TOLD, TURNS, all_signs, best_states, flat_models, greater_tables,
    long_signs,
)


def some_signs(model, most=3):
    long = [long_signs(model, seed)[0] for seed in range(3)]
    return list(all_signs(model, most)) + [long[0], long[1][:13], long[2][:6]]


def pairs(model, most):
    return list(product(all_signs(model, most), repeat=2))


class OpenTimes(unittest.TestCase):
    def test_the_first_one_behind_the_sure_states(self):
        seen = set()
        for model in MODELS:
            for signs in some_signs(model):
                sure = len(sure_states(model, signs))
                self.assertEqual(open_time(model, signs), sure if sure < len(signs) else None)
                seen.add(open_time(model, signs))
        self.assertTrue({None, 0, 1, 2} <= seen)

    def test_no_signs(self):
        for model in MODELS:
            self.assertIsNone(open_time(model, ()))
            self.assertIsNone(told_signs(model, ()))

    def test_changes_to_each_state_alike(self):
        for model in flat_models():
            for signs in some_signs(model):
                self.assertIsNone(open_time(model, signs))
                self.assertIsNone(told_signs(model, signs))


class ToldSigns(unittest.TestCase):
    def told_by_words(self, model, signs):
        """Point 50, word by word."""
        if open_time(model, signs) is None:
            return None
        first = dict(survivors(model, signs))
        for one in sorted(first):
            for other in sorted(first):
                if one < other:
                    rows = [ending_row(model, signs, state)[0] for state in (one, other)]
                    if rows[0][open_time(model, signs)] != rows[1][open_time(model, signs)]:
                        return first[one], first[other]

    def test_against_the_words(self):
        seen = set()
        for model in MODELS:
            for signs in some_signs(model, 4):
                told = told_signs(model, signs)
                self.assertEqual(told, self.told_by_words(model, signs))
                if told is not None:
                    self.assertEqual([type(part) for part in (told, *told)], [tuple] * 3)
                    seen.add(tuple(state for state, _ in survivors(model, signs)))
        self.assertEqual(seen, {(0, 1), (0, 2), (1, 2), (0, 1, 2)})

    def test_not_always_the_first_two_survivors(self):
        other_ones = 0
        for model in MODELS:
            for signs in some_signs(model, 4):
                left = survivors(model, signs)
                if len(left) == 3 and open_time(model, signs) < len(signs) - 1:
                    other_ones += told_signs(model, signs) != (left[0][1], left[1][1])
        self.assertGreater(other_ones, 3)

    def test_they_are_evidence(self):
        seen = 0
        for model in MODELS:
            for signs in some_signs(model):
                told = told_signs(model, signs)
                if told is not None:
                    self.assertIs(accepts_open(model, signs, open_time(model, signs), told), True)
                    self.assertIs(accepts_open(model, signs, open_time(model, signs), told[::-1]), True)
                    rows = [best_states(model, signs + further) for further in told]
                    self.assertNotEqual(*[row[open_time(model, signs)] for row in rows])
                    seen += 1
        self.assertGreater(seen, 150)


class Evidence(unittest.TestCase):
    def test_against_the_best_rows(self):
        told_of = {True: 0, False: 0}
        for model in MODELS:
            for signs in [signs for signs in some_signs(model, 2) if signs]:
                rows = {further: best_states(model, signs + further) for further in all_signs(model, 2)}
                for time in {0, 1, len(signs) // 2, len(signs) - 2, len(signs) - 1} & set(range(len(signs))):
                    for value in pairs(model, 2):
                        told = accepts_open(model, signs, time, value)
                        self.assertIs(told, rows[value[0]][time] != rows[value[1]][time])
                        told_of[told] += 1
        self.assertGreater(min(told_of.values()), 100)

    def test_never_both_and_always_one(self):
        seen = set()
        for seed, model in enumerate(MODELS):
            tables = [profiles(model)] + greater_tables(model, seed)
            for signs in [signs for signs in some_signs(model, 2) if signs]:
                values = pairs(model, 1) + [(one[1], other[1]) for one, other in product(survivors(model, signs), repeat=2)]
                for time in range(len(signs)):
                    sure = [accepts_sure(model, signs, time + 1, table) for table in tables]
                    waits = [accepts_open(model, signs, time, value) for value in values]
                    self.assertFalse(any(sure) and any(waits))
                    self.assertTrue(sure[0] or any(waits))
                    seen.add(any(sure))
        self.assertEqual(seen, {True, False})

    def test_the_same_further_signs_twice(self):
        for model in MODELS:
            for signs in [signs for signs in some_signs(model, 1) if signs]:
                for further in all_signs(model, 2):
                    self.assertIs(accepts_open(model, signs, 0, (further, further)), False)

    def test_twenty_further_signs_and_more(self):
        # The first state is 0 behind as many noughts as wanted, and 1 behind as many ones.
        for many in (0, 1, 19, 20):
            value = ((0,) * max(many, 1), (1,) * many)
            self.assertIs(accepts_open(TURNS, (1,), 0, value), True)
            self.assertIs(accepts_open(TURNS, (1,), 0, value[::-1]), True)
        for many in (21, 22, 40, 100):
            self.assertIs(accepts_open(TURNS, (1,), 0, ((0,) * many, (1,))), False)
            self.assertIs(accepts_open(TURNS, (1,), 0, ((0,), (1,) * many)), False)
            self.assertIs(accepts_open(TURNS, (1,), 0, ((0,) * many, (1,) * many)), False)

    def test_more_than_twenty_together(self):
        told_of = {True: 0, False: 0}
        for model in MODELS:
            for seed in range(3):
                signs = long_signs(model, seed)[0]
                further, other = long_signs(model, seed + 10)[0], long_signs(model, seed + 20)[0][:7]
                rows = [best_states(model, signs + behind) for behind in (further, other)]
                for time in range(20):
                    told = accepts_open(model, signs, time, (further, other))
                    self.assertIs(told, rows[0][time] != rows[1][time])
                    told_of[told] += 1
        self.assertGreater(min(told_of.values()), 20)
        # The twenty signs leave all times open: each further sign can still turn the whole row.
        signs = (1, 0) * 10
        self.assertEqual(best_row(TURNS, signs)[0], (0,) * 20)
        for time in range(20):
            self.assertIs(accepts_open(TURNS, signs, time, ((), (1,) * 20)), True)
            self.assertIs(accepts_open(TURNS, signs, time, ((0,) * 20, ())), False)

    def test_sure_times(self):
        for time in (0, 1):
            for value in pairs(TURNS, 3):
                self.assertIs(accepts_open(TURNS, (1, 1), time, value), False)

    def test_other_forms(self):
        wrong = STRANGE + [
            0, (), (()), ((0,),), ((0,), (), ()), ((0,), (1,), (1,)), [(0,), ()], ([0], ()), ((0,), []), ((0,), None),
            (None, ()), ((0,), 1), (0, ()), (0, 1), ("0", ""), ((0,), ""), "01", {0: (0,), 1: ()}, ((2,), ()), ((0,), (2,)),
            ((-1,), ()), ((False,), ()), ((0,), (True,)), ((0, None), ()), ((0, "0"), ()), (((0,),), ()), ((0.0,), ()),
        ]
        for value in wrong:
            self.assertIs(accepts_open(TURNS, (1,), 0, value), False, value)
        self.assertIs(accepts_open(TURNS, (1,), 0, ((0,), ())), True)

    def test_signs_of_this_model(self):
        self.assertIs(accepts_open(LATER, (0,), 0, ((1,), ())), False)
        self.assertIs(accepts_open(ALONE, (0,), 0, ((3,), ())), False)
        for model in (FREE, ALONE):
            for value in pairs(model, 2):
                self.assertIs(accepts_open(model, (0, 0), 1, value), False)

    def test_no_further_signs_on_one_side(self):
        self.assertIs(accepts_open(TOLD, (1,), 0, ((), (1,))), True)
        self.assertIs(accepts_open(TOLD, (1,), 0, ((0,), ())), False)
        self.assertIs(accepts_open(TOLD, (1,), 0, ((), ())), False)


if __name__ == "__main__":
    unittest.main()
