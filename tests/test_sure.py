"""Points 41 to 46, 48 and 49: what is decided, what is sure, and the evidence for it."""

import unittest

from surepast.best import best_row, ending_row
from surepast.futures import first_signs, profiles
from surepast.sure import accepts_sure, decided_by, sure_states, survivors
from tests.samples import (
    ALONE, FREE, LATER, MODELS, STRANGE, THREE, TOLD, TURNS, all_signs, best_states, flat_models, greater_tables,
    long_signs,
)


def some_signs(model, most=3):
    long = [long_signs(model, seed)[0] for seed in range(3)]
    return list(all_signs(model, most)) + [long[0], long[1][:13], long[2][:6]]


def beginning(rows):
    """The longest tuple with which all of the rows begin."""
    many = 0
    while many < len(rows[0]) and all(row[:many + 1] == rows[0][:many + 1] for row in rows):
        many += 1
    return rows[0][:many]


def endings(model, signs):
    return [ending_row(model, signs, state) for state in range(len(model[0]))]


def can_win(model, signs, state, member):
    """Point 41, word by word, for one member of the table."""
    ends = endings(model, signs)
    row, cost = ends[state]
    for other, (other_row, other_cost) in enumerate(ends):
        one, two = cost + member[state], other_cost + member[other]
        if other != state and not (one < two or (one == two and row < other_row)):
            return False
    return True


def decided_by_words(model, signs, table):
    """Point 42, word by word."""
    if not signs:
        return ()
    ends = endings(model, signs)
    left = [state for state in range(len(ends)) if any(can_win(model, signs, state, member) for member in table)]
    return beginning([ends[state][0] for state in left])


def longest_first(model):
    return max(len(further) for _, further in first_signs(model))


def quick_models(most):
    """Those models whose profiles all come of so few further signs."""
    return [model for model in MODELS if longest_first(model) <= most]


class Decided(unittest.TestCase):
    def test_by_the_least_table_and_by_greater_ones(self):
        less = 0
        for seed, model in enumerate(MODELS):
            for signs in some_signs(model, 2):
                sure = sure_states(model, signs)
                for table in [profiles(model)] + greater_tables(model, seed):
                    told = decided_by(model, signs, table)
                    self.assertEqual(told, decided_by_words(model, signs, table))
                    self.assertEqual(told, sure[:len(told)])
                    less += len(told) < len(sure)
        self.assertGreater(less, 50)

    def test_by_the_least_table_all_that_is_sure(self):
        for model in MODELS:
            for signs in some_signs(model, 2):
                self.assertEqual(decided_by(model, signs, profiles(model)), sure_states(model, signs))

    def test_no_signs(self):
        for seed, model in enumerate(MODELS):
            self.assertEqual(sure_states(model, ()), ())
            self.assertEqual(survivors(model, ()), [])
            for table in greater_tables(model, seed):
                self.assertEqual(decided_by(model, (), table), ())

    def test_of_as_much_the_lesser_row(self):
        # In both models the rows 0 and 1 cost as much with the member 0, 1: then 0 wins.
        model = ((0, 0), ((0, 1), (1, 0)), ((1,), (0,)))
        self.assertEqual(decided_by(TURNS, (1,), ((0, 0), (0, 1), (1, 0))), ())
        self.assertEqual(decided_by(model, (0,), ((0, 0), (1, 0))), (1,))
        self.assertEqual(decided_by(model, (0,), ((0, 0), (0, 1), (1, 0))), ())
        self.assertEqual(decided_by(TOLD, (0,), profiles(TOLD)), (0,))


class Sure(unittest.TestCase):
    def test_what_all_further_signs_leave(self):
        seen = set()
        for model in quick_models(4):
            longest = longest_first(model)
            for signs in all_signs(model, 3):
                rows = [best_states(model, signs + further)[:len(signs)] for further in all_signs(model, longest)]
                self.assertEqual(sure_states(model, signs), beginning(rows))
                seen.add((len(signs), len(sure_states(model, signs))))
        self.assertTrue({(3, 0), (3, 1), (3, 2), (3, 3), (1, 0), (1, 1)} <= seen)

    def test_long_signs_and_what_further_ones_leave(self):
        seen = 0
        for seed, model in enumerate(quick_models(3)):
            for many in (8, 15, 20):
                signs = long_signs(model, seed)[0][:many]
                rows = [best_states(model, signs + further)[:many] for further in all_signs(model, longest_first(model))]
                self.assertEqual(sure_states(model, signs), beginning(rows))
                seen += 0 < len(sure_states(model, signs)) < many
        self.assertGreater(seen, 5)

    def test_whatever_comes_the_best_row_has_them(self):
        for model in MODELS:
            for signs in some_signs(model, 2):
                sure = sure_states(model, signs)
                for further in all_signs(model, 3):
                    self.assertEqual(best_states(model, signs + further)[:len(sure)], sure)

    def test_they_stay(self):
        for model in MODELS:
            for signs in [*all_signs(model, 2), long_signs(model, 4)[0][:12]]:
                sure = sure_states(model, signs)
                for further in all_signs(model, 3):
                    self.assertEqual(sure_states(model, signs + further)[:len(sure)], sure)

    def test_they_stay_sign_by_sign(self):
        grown = 0
        for model in MODELS:
            signs = long_signs(model, 5)[0]
            sure = ()
            for many in range(21):
                more = sure_states(model, signs[:many])
                self.assertEqual(more[:len(sure)], sure)
                grown += len(more) > len(sure)
                sure = more
        self.assertGreater(grown, 50)

    def test_they_are_those_of_the_best_row(self):
        for model in MODELS:
            for signs in some_signs(model):
                sure = sure_states(model, signs)
                self.assertIs(type(sure), tuple)
                self.assertEqual(best_row(model, signs)[0][:len(sure)], sure)

    def test_changes_to_each_state_alike_and_one_state(self):
        for model in flat_models():
            for signs in some_signs(model):
                self.assertEqual(sure_states(model, signs), best_row(model, signs)[0])


class Evidence(unittest.TestCase):
    def test_as_many_as_are_decided_and_no_more(self):
        for seed, model in enumerate(MODELS):
            for signs in some_signs(model, 2):
                for table in [profiles(model)] + greater_tables(model, seed):
                    most = len(decided_by(model, signs, table))
                    for many in range(len(signs) + 1):
                        self.assertIs(accepts_sure(model, signs, many, table), many <= most)

    def test_what_is_accepted_is_so(self):
        for seed, model in enumerate(MODELS):
            for signs in all_signs(model, 2):
                for table in greater_tables(model, seed):
                    for many in range(len(signs) + 1):
                        if accepts_sure(model, signs, many, table):
                            self.assertGreaterEqual(len(sure_states(model, signs)), many)

    def test_no_signs(self):
        self.assertIs(accepts_sure(TURNS, (), 0, profiles(TURNS)), True)
        self.assertIs(accepts_sure(TURNS, (), 0, ()), False)
        self.assertIs(accepts_sure(TURNS, (), 0, ((0, 0),)), False)

    def test_tables_that_are_not_closed(self):
        for model in (TURNS, THREE, LATER, TOLD):
            table = profiles(model)
            for signs in ((), (0,), (0, 0), (1, 0) if len(model[2][0]) > 1 else (0,)):
                for many in range(len(signs) + 1):
                    for value in (table[1:], table[:-1], table[::-1], table + table[-1:], list(table), ()):
                        self.assertIs(accepts_sure(model, signs, many, value), False)

    def test_other_forms(self):
        for value in STRANGE + [0, (0, 0), ((0, 0), None), ((0, 0), [0, 1]), ((0, 0), (0, True), (1, 0)), ((0,),)]:
            for many in (0, 1, 2):
                self.assertIs(accepts_sure(TURNS, (1, 1), many, value), False, value)
        for value in STRANGE:
            self.assertIs(accepts_sure(ALONE, (0,), 0, value), False, value)


class Survivors(unittest.TestCase):
    def test_the_first_further_signs_for_which_each_wins(self):
        for model in quick_models(4):
            numbers_of = {further: numbers for numbers, further in first_signs(model)}
            for signs in some_signs(model, 2):
                first = {}
                for further in all_signs(model, longest_first(model)) if signs else ():
                    state = best_states(model, signs + further)[:len(signs)][-1]
                    first.setdefault(state, further)
                self.assertEqual(survivors(model, signs), sorted(first.items()))
                self.assertTrue(all(further in numbers_of for further in first.values()))

    def test_the_best_row_begins_with_its_ending_row(self):
        for model in MODELS:
            for signs in some_signs(model):
                for state, further in survivors(model, signs):
                    row = best_states(model, signs + further)
                    self.assertEqual(row[:len(signs)], ending_row(model, signs, state)[0])

    def test_they_are_the_states_that_can_still_win(self):
        for model in MODELS:
            for signs in [signs for signs in some_signs(model, 2) if signs]:
                states = range(len(model[0]))
                told = [state for state in states if any(can_win(model, signs, state, one) for one in profiles(model))]
                self.assertEqual([state for state, _ in survivors(model, signs)], told)

    def test_exactly_one_if_and_only_if_all_is_sure(self):
        seen = set()
        for model in MODELS:
            for signs in [signs for signs in some_signs(model) if signs]:
                many = len(survivors(model, signs))
                self.assertGreaterEqual(many, 1)
                self.assertEqual(many == 1, sure_states(model, signs) == best_row(model, signs)[0])
                seen.add(many)
        self.assertEqual(seen, {1, 2, 3})

    def test_a_new_list_of_pairs(self):
        first = survivors(TURNS, (1,))
        self.assertEqual(first, [(0, (0,)), (1, ())])
        self.assertEqual([type(part) for part in (first, *first, *first[0])], [list, tuple, tuple, int, tuple])
        first.clear()
        self.assertEqual(survivors(TURNS, (1,)), [(0, (0,)), (1, ())])
        none = survivors(TURNS, ())
        none.append(None)
        self.assertEqual(survivors(TURNS, ()), [])

    def test_models_whose_rows_all_cost_as_much(self):
        for many in (1, 2, 20):
            self.assertEqual(survivors(FREE, (0,) * many), [(0, ())])
            self.assertEqual(sure_states(FREE, (0,) * many), (0,) * many)


if __name__ == "__main__":
    unittest.main()
