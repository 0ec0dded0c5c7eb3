"""Points 34, 35 and 39: closed tables, and the judge of them."""

import unittest
from random import Random

from surepast.futures import is_closed, profile, profiles
from tests.samples import (
    ALONE, FREE, LATER, MODELS, STRANGE, THREE, TURNS, all_signs, closure, greater_tables, long_signs, plain_ahead,
)


def is_closed_by_words(model, table):
    """Point 34, word by word, for a tuple of tuples of integers, one for each state."""
    if not 1 <= len(table) <= 64 or any(not 0 <= number <= 9 for numbers in table for number in numbers):
        return False
    if any(before >= behind for before, behind in zip(table, table[1:])):
        return False
    if (0,) * len(model[0]) not in table:
        return False
    return all(plain_ahead(model, sign, numbers) in table for numbers in table for sign in range(len(model[2][0])))


def many_tables():
    """Models with closed tables of them."""
    for seed, model in enumerate(MODELS):
        for table in [profiles(model)] + greater_tables(model, seed):
            yield model, table


def changed(table, source):
    """The table with one number of one member changed by a little."""
    at, state = source.randrange(len(table)), source.randrange(len(table[0]))
    member = table[at][:state] + (table[at][state] + source.choice((-2, -1, 1, 2)),) + table[at][state + 1:]
    return table[:at] + (member,) + table[at + 1:]


class ClosedTables(unittest.TestCase):
    def test_the_least_one(self):
        for model in MODELS:
            self.assertIs(is_closed(model, profiles(model)), True)

    def test_greater_ones(self):
        greater = 0
        for seed, model in enumerate(MODELS):
            for table in greater_tables(model, seed):
                self.assertIs(is_closed(model, table), True)
                self.assertTrue(set(profiles(model)) <= set(table))
                greater += len(table) > len(profiles(model))
        self.assertGreater(greater, 100)

    def test_they_have_the_profiles_of_all_further_signs(self):
        for model, table in many_tables():
            for further in list(all_signs(model, 3)) + [long_signs(model, 1)[0]]:
                self.assertIn(profile(model, further), table)

    def test_members_that_are_no_profiles(self):
        self.assertIs(is_closed(TURNS, ((0, 0), (0, 1), (0, 5), (1, 0))), True)
        self.assertIs(is_closed(TURNS, ((0, 0), (0, 1), (1, 0), (1, 1))), True)
        self.assertIs(is_closed(ALONE, ((0,), (3,), (9,))), True)


class WrongTables(unittest.TestCase):
    def test_a_member_left_out(self):
        refused = 0
        for model, table in many_tables():
            for at in range(len(table)):
                value = table[:at] + table[at + 1:]
                told = is_closed(model, value)
                self.assertIs(told, is_closed_by_words(model, value))
                self.assertFalse(told and table[at] in profiles(model))
                refused += not told
        self.assertGreater(refused, 300)

    def test_a_member_changed(self):
        source = Random(34)
        told_of = {True: 0, False: 0}
        for model, table in many_tables():
            for _ in range(10):
                value = changed(table, source)
                told = is_closed(model, value)
                self.assertIs(told, is_closed_by_words(model, value), (model, value))
                self.assertIs(is_closed(model, tuple(sorted(value))), is_closed_by_words(model, tuple(sorted(value))))
                told_of[told] += 1
        self.assertGreater(min(told_of.values()), 20)

    def test_a_member_doubled(self):
        for model, table in many_tables():
            for at in range(len(table)):
                self.assertIs(is_closed(model, table[:at] + table[at:at + 1] + table[at:]), False)
            self.assertIs(is_closed(model, table + table), False)

    def test_members_out_of_order(self):
        for model, table in many_tables():
            for at in range(len(table) - 1):
                value = table[:at] + (table[at + 1], table[at]) + table[at + 2:]
                self.assertIs(is_closed(model, value), False)
            self.assertIs(is_closed(model, table[::-1]), len(table) == 1)

    def test_the_noughts_left_out(self):
        # Of the model without changes that differ, each member has the noughts ahead alone.
        self.assertIs(is_closed(FREE, ((0, 0, 1),)), False)
        self.assertIs(is_closed(FREE, ((0, 0, 0), (0, 0, 1))), True)
        self.assertIs(is_closed(TURNS, ((0, 1), (1, 0))), False)

    def test_numbers_of_nine_and_ten_and_below_nought(self):
        self.assertIs(is_closed(TURNS, ((0, 0), (0, 1), (0, 9), (1, 0))), True)
        self.assertIs(is_closed(TURNS, ((0, 0), (0, 1), (0, 10), (1, 0))), False)
        self.assertIs(is_closed(TURNS, ((0, 0), (0, 1), (1, 0), (9, 9))), True)
        self.assertIs(is_closed(TURNS, ((0, 0), (0, 1), (1, 0), (9, 10))), False)
        self.assertIs(is_closed(TURNS, ((0, 0), (0, 1), (1, 0), (10, 9))), False)
        self.assertIs(is_closed(TURNS, ((0, -1), (0, 0), (0, 1), (1, 0))), False)
        self.assertIs(is_closed(TURNS, ((-1, 0), (0, 0), (0, 1), (1, 0))), False)
        self.assertIs(is_closed(ALONE, ((-1,), (0,))), False)
        self.assertIs(is_closed(ALONE, ((0,), (10,))), False)

    def test_how_many_members(self):
        triples = sorted((0, one, other) for one in range(9) for other in range(9))
        self.assertIs(is_closed(FREE, tuple(triples[:64])), True)
        self.assertIs(is_closed(FREE, tuple(triples[:65])), False)
        self.assertIs(is_closed(FREE, ((0, 0, 0),)), True)
        self.assertIs(is_closed(FREE, ()), False)
        pairs = closure(TURNS, [(one, other) for one in range(8) for other in range(8)])
        self.assertEqual(len(pairs), 64)
        self.assertIs(is_closed(TURNS, pairs), True)
        self.assertIs(is_closed(TURNS, pairs + ((8, 0),)), False)
        self.assertIs(is_closed(TURNS, pairs[:20] + pairs[21:] + ((8, 0),)), True)

    def test_other_forms(self):
        for model in (TURNS, LATER):
            table = profiles(model)
            wrong = STRANGE + [
                0, (0, 0), (0,), "00", list(table), dict.fromkeys(table), set(table), (table,), tuple(map(list, table)),
                ([0, 0],) + table[1:], table[:1] + ([0, 1],) + table[2:], table + (None,), table + ("10",), table + (5,),
                (None,) + table, table + ((1,),), table + ((1, 0, 0),), table + ((2, None),), table + ((2, "0"),),
                table + ((2, True),), table + ((True, 1),), table + ((2, 0.0),), table + ((2, (0,)),), ((), *table),
                ((False, 0),) + table[1:], table[:1] + ((0, True),) + table[2:], ((0, False),) + table[1:],
            ]
            for value in wrong:
                self.assertIs(is_closed(model, value), False, value)
        for value in STRANGE + [((0, 0),), (0,), ((0,), (True,)), ((False,),), [(0,)], (((0,),),)]:
            self.assertIs(is_closed(ALONE, value), False, value)

    def test_tables_of_other_models(self):
        for model in (TURNS, THREE, ALONE, LATER):
            for other in (TURNS, THREE, ALONE, LATER):
                table = profiles(other)
                right = len(other[0]) == len(model[0]) and is_closed_by_words(model, table)
                self.assertIs(is_closed(model, table), right)


if __name__ == "__main__":
    unittest.main()
