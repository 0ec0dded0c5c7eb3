"""Point 68: closed sets of conditions, and the judge of them."""

import unittest
from itertools import permutations, product
from random import Random

from surepast.conditions import all_conditions, condition, is_closed_set
from tests.reckoning import any_conditions, is_closed_by_words, set_with
from tests.samples import ALONE, DEAR, FREE, LATER, MODELS, SLOW, STRANGE, THREE, TURNS, all_signs, long_signs


def least_set(model):
    return tuple(held for held, _ in all_conditions(model))


def many_sets():
    """Models with closed sets of conditions."""
    for seed, model in enumerate(MODELS):
        yield model, least_set(model)
        for many in (1, 4):
            yield model, set_with(model, any_conditions(model, seed + many, many))


def changed(value, source):
    """The set with one cost of one condition changed by a little, or with two states of its order exchanged."""
    at = source.randrange(len(value))
    costs, order = (list(part) for part in value[at])
    state = source.randrange(len(costs))
    if source.random() < 0.5:
        costs[state] += source.choice((-1, 1, 2))
    else:
        order[0], order[state] = order[state], order[0]
    return value[:at] + ((tuple(costs), tuple(order)),) + value[at + 1:]


class ClosedSets(unittest.TestCase):
    def test_the_least_one(self):
        for model in MODELS + [SLOW]:
            self.assertIs(is_closed_set(model, least_set(model)), True)
            self.assertEqual(least_set(model), set_with(model, []))

    def test_greater_ones(self):
        greater = 0
        for model, value in many_sets():
            self.assertIs(is_closed_set(model, value), True)
            self.assertTrue(set(least_set(model)) <= set(value))
            greater += len(value) > len(least_set(model))
        self.assertGreater(greater, 40)

    def test_all_conditions_that_come_are_in_it(self):
        for model, value in many_sets():
            for signs in [signs for signs in all_signs(model, 3) if signs] + [long_signs(model, 3)[0]]:
                self.assertIn(condition(model, signs), value)


class WrongSets(unittest.TestCase):
    def test_a_member_left_out(self):
        told_of = {True: 0, False: 0}
        for model, value in many_sets():
            for at in list(range(len(value)))[:12]:
                less = value[:at] + value[at + 1:]
                told = is_closed_set(model, less)
                self.assertIs(told, is_closed_by_words(model, less))
                self.assertFalse(told and value[at] in least_set(model))
                told_of[told] += 1
        self.assertGreater(min(told_of.values()), 5)

    def test_a_member_changed(self):
        source = Random(68)
        refused = 0
        for model, value in many_sets():
            for _ in range(6):
                other = changed(value, source)
                for this in (other, tuple(sorted(other))):
                    told = is_closed_set(model, this)
                    self.assertIs(told, is_closed_by_words(model, this))
                    refused += not told
        self.assertGreater(refused, 300)

    def test_a_member_doubled(self):
        for model, value in many_sets():
            for at in list(range(len(value)))[:8]:
                self.assertIs(is_closed_set(model, value[:at] + value[at:at + 1] + value[at:]), False)

    def test_members_out_of_order(self):
        for model, value in many_sets():
            for at in list(range(len(value) - 1))[:8]:
                other = value[:at] + (value[at + 1], value[at]) + value[at + 2:]
                self.assertIs(is_closed_set(model, other), False)
            self.assertIs(is_closed_set(model, value[::-1]), len(value) == 1)

    def test_single_signs_left_out(self):
        # Behind whatever comes, this model has the first one of these alone.
        self.assertEqual(least_set(DEAR), (((0, 0, 0), (0, 1, 2)),))
        self.assertIs(is_closed_set(DEAR, (((0, 0, 0), (0, 2, 1)),)), False)
        self.assertIs(is_closed_set(DEAR, (((0, 0, 0), (0, 1, 2)), ((0, 0, 0), (0, 2, 1)))), True)
        self.assertIs(is_closed_set(LATER, (((1, 0), (0, 1)),)), True)
        self.assertIs(is_closed_set(LATER, (((0, 0), (0, 1)),)), False)

    def test_costs_of_nine_and_ten_and_below_nought(self):
        first = ((0, 0, 0), (0, 1, 2))
        for costs in ((0, 9, 9), (9, 0, 9), (9, 9, 0), (0, 0, 9), (9, 0, 0)):
            self.assertIs(is_closed_set(FREE, (first, (costs, (0, 1, 2)))), True)
        for costs in ((0, 10, 0), (10, 0, 0), (0, 0, 10), (0, 9, 10), (1, 1, 1), (9, 9, 9), (0, 1000, 0)):
            self.assertIs(is_closed_set(FREE, (first, (costs, (0, 1, 2)))), False)
        for costs in ((-1, 0, 0), (0, -1, 0), (0, 0, -1), (-1, -1, -1)):
            self.assertIs(is_closed_set(FREE, tuple(sorted((first, (costs, (0, 1, 2)))))), False)

    def test_how_many_members(self):
        costs = [one for one in product(range(10), repeat=3) if min(one) == 0]
        every = sorted((one, order) for one in costs for order in permutations(range(3)))
        self.assertEqual(len(every), 1626)
        self.assertIs(is_closed_set(FREE, tuple(every)), True)
        self.assertIs(is_closed_set(FREE, ()), False)
        self.assertIs(is_closed_set(FREE, tuple(every * 2)), False)

    def test_other_forms(self):
        value = least_set(TURNS)
        held = value[0]
        members = STRANGE + [
            0, (), held[:1], held + held[:1], held + (None,), list(held), (list(held[0]), held[1]), (held[0], list(held[1])),
            ((0, 0), None), (None, (0, 1)), ((0,), (0, 1)), ((0, 0, 0), (0, 1)), ((0, 0), (0,)), ((0, 0), (0, 1, 0)), "00",
            ((0, 0), (0, 0)), ((0, 0), (1, 1)), ((0, 0), (1, 2)), ((0, 0), (-1, 0)), ((0, True), (0, 1)), ((False, 0), (0, 1)),
            ((0, 0), (False, True)), ((0, 0), (0, True)), ((0, None), (0, 1)), ((0, "0"), (0, 1)), ((0, 0.0), (0, 1)),
            ((0, 0), "01"), ("00", (0, 1)), ((0, 0), 1), (0, (0, 1)), ((), ()), ((0, (0,)), (0, 1)), ((0, 0), ((0,), (1,))),
        ]
        for member in members:
            for other in ((member,) + value[1:], value + (member,), (member, *value)):
                self.assertIs(is_closed_set(TURNS, other), False, member)
        for other in STRANGE + [0, (), list(value), set(value), dict.fromkeys(value), (value,), value[0], "00"]:
            self.assertIs(is_closed_set(TURNS, other), False, other)

    def test_sets_of_other_models(self):
        for model in (ALONE, LATER, TURNS, THREE, FREE):
            for other in (ALONE, LATER, TURNS, THREE, FREE):
                value = least_set(other)
                right = len(model[0]) == len(other[0]) and is_closed_by_words(model, value)
                self.assertIs(is_closed_set(model, value), right)


if __name__ == "__main__":
    unittest.main()
