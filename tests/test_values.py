"""Points 3, 5 and 6: what is a model, and what are signs for it."""

import unittest

from surepast.models import is_model, is_signs
from tests.samples import ALONE, DEAR, FREE, LATER, LEAST, MODELS, STRANGE, THREE, TOLD, TURNS

NOT_COSTS = [-1, 4, 100, -100, 10 ** 30, True, False, None, "1", "", [1], (1,), (), 1.0, 0.5]


def put(model, path, item):
    """The model with the item in the place that the path of indexes tells."""
    if not path:
        return item
    at = path[0]
    return model[:at] + (put(model[at], path[1:], item),) + model[at + 1:]


def cost_paths(model):
    begin, change, show = model
    paths = [(0, at) for at in range(len(begin))]
    paths += [(1, at, to) for at in range(len(change)) for to in range(len(change[at]))]
    paths += [(2, at, to) for at in range(len(show)) for to in range(len(show[at]))]
    return paths


def tuple_paths(model):
    parts = [(), (0,), (1,), (2,)]
    return parts + [(1, at) for at in range(len(model[1]))] + [(2, at) for at in range(len(model[2]))]


def read(model, path):
    for at in path:
        model = model[at]
    return model


class RightModels(unittest.TestCase):
    def test_models(self):
        for model in MODELS:
            self.assertIs(is_model(model), True, model)

    def test_each_number_of_states_and_signs(self):
        for states in (1, 2, 3):
            for kinds in (1, 2, 3):
                model = ((0,) * states, ((1,) * states,) * states, ((2,) * kinds,) * states)
                self.assertIs(is_model(model), True, model)

    def test_each_cost_at_each_place(self):
        for model in (LEAST, TOLD, THREE):
            for path in cost_paths(model):
                for cost in range(4):
                    self.assertIs(is_model(put(model, path, cost)), True)


class WrongModels(unittest.TestCase):
    def test_strange_values(self):
        for value in STRANGE + [0, 3, -1, (), (0,), (0, 0, 0), ((), (), ()), ((0,), (0,), (0,)), "abc"]:
            self.assertIs(is_model(value), False, value)

    def test_no_cost(self):
        for model in (LEAST, LATER, TOLD, THREE):
            for path in cost_paths(model):
                for item in NOT_COSTS:
                    self.assertIs(is_model(put(model, path, item)), False, (model, path, item))

    def test_no_tuple(self):
        for model in (LEAST, TOLD, THREE):
            for path in tuple_paths(model):
                items = read(model, path)
                for wrong in STRANGE + [list(items), dict(enumerate(items)), 0, 2, "012"[:len(items)]]:
                    self.assertIs(is_model(put(model, path, wrong)), False, (model, path, wrong))

    def test_tuples_too_short_or_too_long(self):
        # LEAST is left out: a further show cost would be a further sign there.
        for model in (LATER, TOLD, THREE):
            for path in tuple_paths(model):
                items = read(model, path)
                for wrong in (items[:-1], items[1:], items + items[-1:], items * 2, ()):
                    self.assertIs(is_model(put(model, path, wrong)), False, (model, path, wrong))

    def test_no_states_and_four(self):
        self.assertIs(is_model(((), (), ())), False)
        self.assertIs(is_model(((), (), ((0,),))), False)
        self.assertIs(is_model(((0,) * 4, ((0,) * 4,) * 4, ((0, 1),) * 4)), False)

    def test_no_signs_and_four(self):
        for states in (1, 2, 3):
            begin, change = (0,) * states, ((0,) * states,) * states
            self.assertIs(is_model((begin, change, ((),) * states)), False)
            self.assertIs(is_model((begin, change, ((0, 1, 2, 3),) * states)), False)

    def test_rows_of_unequal_length(self):
        self.assertIs(is_model(((0, 0), ((0, 1), (1,)), ((0, 1), (1, 0)))), False)
        self.assertIs(is_model(((0, 0), ((0, 1), (1, 0, 2)), ((0, 1), (1, 0)))), False)
        self.assertIs(is_model(((0, 0), ((0,), (1, 0)), ((0, 1), (1, 0)))), False)
        self.assertIs(is_model(((0, 0), ((0, 1), (1, 0)), ((0, 1), (1,)))), False)
        self.assertIs(is_model(((0, 0), ((0, 1), (1, 0)), ((0, 1), (1, 0, 2)))), False)
        self.assertIs(is_model(((0, 0), ((0, 1), (1, 0)), ((0,), (1, 0)))), False)
        self.assertIs(is_model(((0, 0), ((0, 1), (1, 0)), ((0, 1), ()))), False)

    def test_parts_for_other_numbers_of_states(self):
        for model in (ALONE, TOLD, FREE):
            for other in (ALONE, TOLD, FREE):
                for part in (0, 1, 2):
                    mixed = put(model, (part,), other[part])
                    self.assertIs(is_model(mixed), len(model[0]) == len(other[0]), mixed)

    def test_two_parts_and_four(self):
        self.assertIs(is_model(TOLD[:2]), False)
        self.assertIs(is_model(TOLD + (TOLD[2],)), False)
        self.assertIs(is_model((TOLD,)), False)
        self.assertIs(is_model((TOLD, TOLD, TOLD)), False)


class RightSigns(unittest.TestCase):
    def test_no_signs_to_twenty(self):
        for model in MODELS:
            kinds = len(model[2][0])
            for many in range(21):
                self.assertIs(is_signs(tuple(at % kinds for at in range(many)), model), True)

    def test_each_sign_at_each_place(self):
        for sign in range(3):
            for at in range(20):
                self.assertIs(is_signs((0,) * at + (sign,) + (0,) * (19 - at), THREE), True)

    def test_as_many_signs_as_the_model_shows(self):
        # Neither the number of the states nor the greatest one of all models counts.
        self.assertIs(is_signs((2,), ALONE), True)
        self.assertIs(is_signs((1,), LATER), False)
        self.assertIs(is_signs((2,), DEAR), False)

    def test_the_model_is_not_checked(self):
        self.assertIs(is_signs((0, 1), ((9,), ((9,),), ((9, -9),))), True)
        self.assertIs(is_signs((0, 2), ((9,), ((9,),), ((9, -9),))), False)


class WrongSigns(unittest.TestCase):
    def test_twenty_one(self):
        for model in MODELS:
            self.assertIs(is_signs((0,) * 20, model), True)
            self.assertIs(is_signs((0,) * 21, model), False)
            self.assertIs(is_signs((0,) * 1000, model), False)

    def test_strange_values(self):
        for value in STRANGE + [0, 1, "01", [], [0, 1], {0: 0}, range(2)]:
            for model in (LEAST, TURNS, THREE):
                self.assertIs(is_signs(value, model), False, value)

    def test_no_sign_at_each_place(self):
        for model in (LEAST, TURNS, THREE):
            wrong_signs = [-1, len(model[2][0]), 3, 4, 99, -(10 ** 30), True, False, None, "0", (0,), [0], 0.0]
            for wrong in wrong_signs:
                for at in (0, 1, 19):
                    signs = (0,) * at + (wrong,) + (0,) * (19 - at)
                    self.assertIs(is_signs(signs, model), False, wrong)
                self.assertIs(is_signs((wrong,), model), False, wrong)


if __name__ == "__main__":
    unittest.main()
