"""Points 87 and 88: ahead and behind numbers, and the evidence about a state at a time."""

import unittest
from itertools import product
from random import Random

from surepast.best import best_row, ending_row, told_floors
from surepast.met import accepts_met, met, met_evidence
from tests.all_of_them import least_with, near_rows, ranked
from tests.samples import (
    ALONE, DEAR, FREE, LATER, MODELS, STRANGE, THREE, TOLD, TURNS, all_rows, all_signs, long_signs, plain_cost,
)

STEPS = (1, -1, -2, -40, 1000, 10 ** 30, -(10 ** 30))


def are_ahead(model, signs, ahead):
    """Point 87, word by word."""
    begin, change, show = model
    for time, sign in enumerate(signs):
        for state in range(len(begin)):
            bounds = [begin[state] + show[state][sign]]
            if time > 0:
                bounds = [
                    ahead[time - 1][before] + change[before][state] + show[state][sign] for before in range(len(begin))
                ]
            if any(ahead[time][state] > bound for bound in bounds):
                return False
    return True


def are_behind(model, signs, behind):
    """Point 87, word by word."""
    change, show = model[1], model[2]
    for time in range(len(signs)):
        for state in range(len(change)):
            bounds = [0]
            if time < len(signs) - 1:
                bounds = [
                    behind[time + 1][later] + change[state][later] + show[later][signs[time + 1]]
                    for later in range(len(change))
                ]
            if any(behind[time][state] > bound for bound in bounds):
                return False
    return True


def is_evidence(model, signs, margin, time, state, value):
    """Point 88, word by word, for a value whose row and numbers have the form that they should."""
    word, row, ahead = value[:3]
    if not are_ahead(model, signs, ahead):
        return False
    cost = plain_cost(model, signs, row)
    if word == "met":
        return len(value) == 3 and row[time] == state and cost <= min(ahead[-1]) + margin
    if word != "not" or len(value) != 4 or not are_behind(model, signs, value[3]):
        return False
    return ahead[time][state] + value[3][time][state] > cost + margin


def greatest_ahead(model, signs):
    return tuple(
        tuple(ending_row(model, signs[:time + 1], state)[1] for state in range(len(model[0]))) for time in range(len(signs))
    )


def put(numbers, time, state, number):
    """The numbers with this one at the time and the state."""
    here = numbers[time][:state] + (number,) + numbers[time][state + 1:]
    return numbers[:time] + (here,) + numbers[time + 1:]


def places(model, signs):
    return list(product(range(len(signs)), range(len(model[0]))))


def some_signs(model, most=2):
    """All short signs but none, and a few longer ones."""
    long = long_signs(model, 6)[0]
    return [signs for signs in all_signs(model, most) if signs] + [long[:4], long]


class Told(unittest.TestCase):
    def test_it_is_accepted_with_the_right_word(self):
        words = {"met": 0, "not": 0}
        for model in MODELS:
            for signs in [signs for signs in all_signs(model, 3) if signs]:
                for margin in (0, 1, 2, 4, 30):
                    states = met(model, signs, margin)
                    for time, state in places(model, signs):
                        value = met_evidence(model, signs, margin, time, state)
                        self.assertEqual(value[0], "met" if state in states[time] else "not")
                        self.assertIs(accepts_met(model, signs, margin, time, state, value), True)
                        self.assertTrue(is_evidence(model, signs, margin, time, state, value))
                        words[value[0]] += 1
        self.assertGreater(min(words.values()), 1000)

    def test_twenty_signs(self):
        words = {"met": 0, "not": 0}
        for model in MODELS:
            signs = long_signs(model, 88)[0]
            for margin in (0, 3, 30):
                most = best_row(model, signs)[1] + margin
                for time, state in places(model, signs):
                    value = met_evidence(model, signs, margin, time, state)
                    self.assertEqual(value[0], "met" if least_with(model, signs, time, state) <= most else "not")
                    self.assertIs(accepts_met(model, signs, margin, time, state, value), True)
                    words[value[0]] += 1
        self.assertGreater(min(words.values()), 300)

    def test_its_form(self):
        for model in (ALONE, TURNS, THREE):
            for margin in (0, 30):
                for time, state in places(model, (0, 0)):
                    value = met_evidence(model, (0, 0), margin, time, state)
                    self.assertIs(type(value), tuple)
                    self.assertEqual(len(value), 3 if value[0] == "met" else 4)
                    self.assertEqual({type(part) for part in value[1:]}, {tuple})


class Judged(unittest.TestCase):
    def test_all_rows_with_the_greatest_numbers(self):
        told_of = {True: 0, False: 0}
        for model in MODELS:
            for signs in [signs for signs in all_signs(model, 2) if signs]:
                ahead, behind = greatest_ahead(model, signs), told_floors(model, signs)
                for margin, (time, state) in product((0, 1, 3), places(model, signs)):
                    is_met = state in met(model, signs, margin)[time]
                    for row in all_rows(model, signs):
                        for value in (("met", row, ahead), ("not", row, ahead, behind)):
                            told = accepts_met(model, signs, margin, time, state, value)
                            self.assertIs(told, is_evidence(model, signs, margin, time, state, value))
                            self.assertTrue(not told or (value[0] == "met") == is_met)
                            told_of[told] += 1
        self.assertGreater(min(told_of.values()), 1000)

    def test_all_small_numbers(self):
        told_of = {True: 0, False: 0}
        for model, margins in ((TOLD, (0, 2, 4)), (TURNS, (0, 1)), (LATER, (0, 1))):
            for numbers in product(range(-1, 5), repeat=2):
                for margin, state, row in product(margins, (0, 1), ((0,), (1,))):
                    values = [("met", row, (numbers,))]
                    values += [("not", row, (numbers,), (rest,)) for rest in product(range(-1, 2), repeat=2)]
                    for value in values:
                        told = accepts_met(model, (0,), margin, 0, state, value)
                        self.assertIs(told, is_evidence(model, (0,), margin, 0, state, value))
                        near = near_rows(model, (0,), margin)
                        self.assertTrue(not told or (value[0] == "met") == ((state,) in near))
                        told_of[told] += 1
        self.assertGreater(min(told_of.values()), 100)

    def test_each_number_changed(self):
        told_of = {True: 0, False: 0}
        for model in MODELS:
            for signs in some_signs(model, 1):
                source = Random(len(signs))
                for margin, (time, state) in product((0, 2), source.sample(places(model, signs), 1)):
                    value = met_evidence(model, signs, margin, time, state)
                    for part, (at, of), by in product(range(2, len(value)), places(model, signs), STEPS):
                        numbers = put(value[part], at, of, value[part][at][of] + by)
                        changed = value[:part] + (numbers,) + value[part + 1:]
                        told = accepts_met(model, signs, margin, time, state, changed)
                        self.assertIs(told, is_evidence(model, signs, margin, time, state, changed))
                        told_of[told] += 1
        self.assertGreater(min(told_of.values()), 1000)

    def test_a_number_too_great_by_one(self):
        for model in MODELS:
            for signs in some_signs(model):
                ahead, behind = greatest_ahead(model, signs), told_floors(model, signs)
                time, state = len(signs) // 2, 0
                best = best_row(model, signs)[0]
                for at, of in places(model, signs):
                    for by in (1, 10 ** 30):
                        more = put(ahead, at, of, ahead[at][of] + by)
                        later = put(behind, at, of, behind[at][of] + by)
                        for value in (("met", best, more), ("not", best, more, behind), ("not", best, ahead, later)):
                            self.assertIs(accepts_met(model, signs, 0, time, best[time], value), False)
                            self.assertIs(accepts_met(model, signs, 0, time, state, value), False)

    def test_far_below_nought(self):
        for model in (TOLD, TURNS, THREE):
            for signs in some_signs(model):
                far = ((-(10 ** 30),) * len(model[0]),) * len(signs)
                best = best_row(model, signs)[0]
                for time, state in places(model, signs):
                    for value in (("met", best, far), ("not", best, far, far), ("not", best, far, told_floors(model, signs))):
                        self.assertIs(accepts_met(model, signs, 30, time, state, value), False)

    def test_lesser_numbers_ahead_of_another_state_can_stand(self):
        # No number but the last ones counts for "met": and of these the least one alone.
        ahead = greatest_ahead(TURNS, (0, 0))
        self.assertEqual(ahead, ((0, 1), (0, 2)))
        self.assertIs(accepts_met(TURNS, (0, 0), 0, 0, 0, ("met", (0, 0), ((0, -99), (-99, -98)))), False)
        self.assertIs(accepts_met(TURNS, (0, 0), 0, 0, 0, ("met", (0, 0), ((0, 1), (0, 0)))), True)
        self.assertIs(accepts_met(TURNS, (0, 0), 1, 0, 0, ("met", (0, 0), ((0, 1), (0, -1)))), True)
        self.assertIs(accepts_met(TURNS, (0, 0), 0, 0, 0, ("met", (0, 0), ((0, 1), (0, -1)))), False)

    def test_the_margin_counts_to_its_end(self):
        # With the state 1 the one sign costs 4 more than with 0.
        for margin in range(31):
            row_of_one = accepts_met(TOLD, (0,), margin, 0, 1, ("met", (1,), ((0, 4),)))
            self.assertIs(row_of_one, margin >= 4)
            no_row = accepts_met(TOLD, (0,), margin, 0, 1, ("not", (0,), ((0, 4),), ((0, 0),)))
            self.assertIs(no_row, margin < 4)
            self.assertIs(accepts_met(TOLD, (0,), margin, 0, 1, ("not", (1,), ((0, 4),), ((0, 0),))), False)

    def test_another_row(self):
        for model in (TOLD, TURNS, THREE, FREE):
            for signs in [signs for signs in all_signs(model, 2) if signs]:
                for margin, (time, state) in product((0, 2), places(model, signs)):
                    value = met_evidence(model, signs, margin, time, state)
                    for cost, row in ranked(model, signs):
                        changed = (value[0], row) + value[2:]
                        told = accepts_met(model, signs, margin, time, state, changed)
                        self.assertIs(told, is_evidence(model, signs, margin, time, state, changed))
                        if value[0] == "met" and row[time] != state:
                            self.assertIs(told, False)

    def test_the_other_word(self):
        for model in MODELS:
            for signs in some_signs(model, 1):
                for margin, (time, state) in product((0, 2, 30), places(model, signs)[:6]):
                    value = met_evidence(model, signs, margin, time, state)
                    other = "not" if value[0] == "met" else "met"
                    behind = told_floors(model, signs)
                    for changed in ((other,) + value[1:], (other,) + value[1:3], (other, *value[1:3], behind)):
                        self.assertIs(accepts_met(model, signs, margin, time, state, changed), False)

    def test_another_time_and_another_state(self):
        told_of = {True: 0, False: 0}
        for model in MODELS:
            for signs in some_signs(model, 2)[-6:]:
                for margin in (0, 3):
                    where = places(model, signs)[:9]
                    values = [met_evidence(model, signs, margin, time, state) for time, state in where]
                    for value, (time, state) in product(values, where):
                        told = accepts_met(model, signs, margin, time, state, value)
                        self.assertIs(told, is_evidence(model, signs, margin, time, state, value))
                        told_of[told] += 1
        self.assertGreater(min(told_of.values()), 1000)


class OtherForms(unittest.TestCase):
    # Of the first one "met" is right, and of the second one "not".
    CASES = [(TURNS, (1, 0), 1, 0, 1), (TURNS, (1, 1), 0, 0, 0), (DEAR, (0,), 30, 0, 2), (TOLD, (0, 1), 2, 0, 1)]

    def wrong_numbers(self, numbers):
        first = numbers[0]
        wrong = STRANGE + [
            (), 0, -1, numbers[:-1], numbers + numbers[-1:], numbers * 2, list(numbers), dict(enumerate(numbers)), (numbers,),
            (list(first),) + numbers[1:], (first[:-1],) + numbers[1:], (first + (-9,),) + numbers[1:], ((),) + numbers[1:],
            numbers[:-1] + (None,), numbers[:-1] + (-9,), numbers[:-1] + ("00",), numbers[:-1] + ([-9] * len(first),), "00",
        ]
        for item in (True, False, None, "0", (), (0,), [0], 0.0, -0.5, object()):
            wrong += [put(numbers, time, state, item) for time in range(len(numbers)) for state in range(len(first))]
        return wrong

    def wrong_rows(self, row):
        wrong = STRANGE + [(), row[:-1], row + (0,), row * 2, list(row), "".join(map(str, row)), dict(enumerate(row))]
        for item in (-1, 3, True, False, None, "0", (0,), 0.0):
            wrong += [row[:at] + (item,) + row[at + 1:] for at in range(len(row))]
        return wrong

    def wrong_values(self, value):
        for word in ("Met", "NOT", "", "met ", None, True, 0, b"met", ("met",), ["met"], "sure"):
            yield (word,) + value[1:]
        for row in self.wrong_rows(value[1]):
            yield (value[0], row) + value[2:]
        for part in range(2, len(value)):
            for numbers in self.wrong_numbers(value[part]):
                yield value[:part] + (numbers,) + value[part + 1:]
        for at in range(len(value)):
            yield value[:at] + value[at + 1:]
            yield value[:at] + (value[at],) + value[at:]
        yield from (value + (None,), value + ((),), value[::-1], list(value), value[:1], value[:2], (value,), str(value))
        yield from STRANGE + [0, 1, (), "met", ("met",), ("not",), dict(enumerate(value))]

    def test_they_are_false(self):
        words = set()
        for model, signs, margin, time, state in self.CASES:
            value = met_evidence(model, signs, margin, time, state)
            self.assertIs(accepts_met(model, signs, margin, time, state, value), True)
            for wrong in self.wrong_values(value):
                self.assertIs(accepts_met(model, signs, margin, time, state, wrong), False, wrong)
            words.add(value[0])
        self.assertEqual(words, {"met", "not"})

    def test_every_time_and_state_of_twenty_signs(self):
        for model in (TURNS, ALONE, FREE):
            signs = long_signs(model, 1)[0]
            for time, state in places(model, signs):
                for value in STRANGE + [("met", (), ()), ("not", None, 0, 0), ("met", best_row(model, signs)[0], ())]:
                    self.assertIs(accepts_met(model, signs, 30, time, state, value), False, value)

    def test_false_and_true_are_no_integers(self):
        # As numbers, these would be right.
        self.assertIs(accepts_met(FREE, (0,), 0, 0, 0, ("met", (0,), ((0, 0, 0),))), True)
        self.assertIs(accepts_met(FREE, (0,), 0, 0, 0, ("met", (0,), ((False, 0, 0),))), False)
        self.assertIs(accepts_met(FREE, (0,), 0, 0, 0, ("met", (False,), ((0, 0, 0),))), False)
        self.assertIs(accepts_met(TOLD, (0,), 0, 0, 1, ("not", (0,), ((0, 4),), ((0, 0),))), True)
        self.assertIs(accepts_met(TOLD, (0,), 0, 0, 1, ("not", (0,), ((0, 4),), ((0, False),))), False)


if __name__ == "__main__":
    unittest.main()
