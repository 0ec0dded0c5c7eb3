"""Points 56 to 58 and 63: the evidence of delays, told and judged."""

import unittest
from random import Random

from surepast.conditions import all_conditions, is_closed_set
from surepast.delays import accepts_delay, delay, delay_evidence, undecided
from tests.reckoning import (
    any_conditions, is_closed_by_words, is_open, kinds, last_marked, marked_with, marked_with_all, quick_condition,
    ranks_in, set_with, states_of, web_of,
)
from tests.samples import (
    ALONE, DELAYED, FREE, FULL, LATER, LATEST, LEAST, MODELS, STRANGE, THREE, TOLD, TOO_FULL, TURNS,
    all_signs, long_signs,
)

CASES = MODELS + DELAYED + [LATEST]
WITHIN = [model for model in CASES if delay(model) is not None]
NEVER = [model for model in CASES if delay(model) is None]


def is_within(model, ranks, marked, most):
    return not is_open(model, marked) or (marked in ranks and ranks[marked] <= most)


def accepted_by_words(model, number, conditions, ranks):
    """Point 56, word by word, for values that have its forms but for the numbers and their order."""
    if number < 0 or not is_closed_by_words(model, conditions):
        return False
    marked_ones = [marked for marked, _ in ranks]
    if any(one >= other for one, other in zip(marked_ones, marked_ones[1:])) or any(rank < 1 for _, rank in ranks):
        return False
    of = dict(ranks)
    return all(is_within(model, of, last_marked(held), number) for held in conditions) and all(
        is_within(model, of, marked_with(model, marked, sign), rank - 1) for marked, rank in ranks for sign in kinds(model)
    )


def never_by_words(model, signs, further, again):
    """Point 57, word by word, for tuples of signs."""
    if not (1 <= len(signs) <= 2000 and len(further) <= 2000 and 1 <= len(again) <= 2000):
        return False
    marked = last_marked(quick_condition(model, signs))
    marked = marked_with_all(model, marked, further)
    return is_open(model, marked) and marked_with_all(model, marked, again) == marked


def without(items, at):
    return items[:at] + items[at + 1:]


def put(items, at, item):
    return items[:at] + (item,) + items[at + 1:]


def some_places(items, source, many=6):
    return source.sample(range(len(items)), min(many, len(items)))


class ToldEvidence(unittest.TestCase):
    def test_which_word(self):
        for model in CASES:
            self.assertEqual(delay_evidence(model)[0], "never" if delay(model) is None else "within")
        self.assertGreater(min(len(WITHIN), len(NEVER)), 5)

    def test_it_is_accepted(self):
        for model in CASES + FULL:
            self.assertIs(accepts_delay(model, delay_evidence(model)), True)

    def test_within_has_the_delay_and_all_conditions_and_ranks(self):
        for model in WITHIN:
            word, number, conditions, ranks = delay_evidence(model)
            self.assertEqual(number, delay(model))
            self.assertEqual(conditions, tuple(held for held, _ in all_conditions(model)))
            self.assertEqual(ranks, tuple(sorted(ranks_in(web_of(model, conditions)).items())))

    def test_never_by_the_words(self):
        for model in NEVER + FULL:
            word, signs, further, again = delay_evidence(model)
            self.assertTrue(never_by_words(model, signs, further, again))

    def test_kinds_of_what_is_returned(self):
        for model in CASES:
            evidence = delay_evidence(model)
            self.assertIs(type(evidence), tuple)
            if evidence[0] == "never":
                self.assertEqual([type(part) for part in evidence], [str, tuple, tuple, tuple])
                self.assertEqual({type(sign) for part in evidence[1:] for sign in part}, {int})
            else:
                self.assertEqual([type(part) for part in evidence], [str, int, tuple, tuple])
                self.assertEqual({type(pair) for pair in evidence[3]} | {tuple}, {tuple})

    def test_of_the_other_word_nothing_is_accepted(self):
        source = Random(58)
        for model in WITHIN:
            for seed in range(10):
                signs = long_signs(model, seed)[0]
                many = source.randint(1, 20)
                self.assertIs(accepts_delay(model, ("never", signs[:many], signs[:seed], signs[:source.randint(1, 6)])), False)
            if delay(model):
                signs, further = undecided(model, delay(model) - 1)
                for sign in kinds(model):
                    self.assertIs(accepts_delay(model, ("never", signs, further, (sign,))), False)
        for model in NEVER:
            conditions = tuple(held for held, _ in all_conditions(model))
            web = web_of(model, conditions)
            ranks = ranks_in(web)
            finite = tuple(sorted(pair for pair in ranks.items() if pair[1] is not None))
            every = tuple(sorted((marked, rank or 1000) for marked, rank in ranks.items()))
            for told in (finite, every, ()):
                for number in (0, 1, 1000, 10 ** 30):
                    self.assertIs(accepts_delay(model, ("within", number, conditions, told)), False)

    def test_too_many_conditions_are_no_hindrance_to_the_judge(self):
        for model in TOO_FULL:
            evidence = plain_never(model)
            self.assertIs(accepts_delay(model, evidence), True)
            self.assertIs(accepts_delay(model, evidence[:3] + (evidence[3] * 2,)), True)
            self.assertIs(accepts_delay(model, ("within", 5, tuple(held for held, _ in all_conditions(model)), ())), False)

    def test_point_63(self):
        self.assertIsNone(delay(TURNS))
        for many in (1, 2, 10):
            self.assertIs(accepts_delay(TURNS, ("never", (1,), (), (0, 1) * many)), True)


def plain_never(model):
    """Evidence that there is no delay, with as many open marked conditions as may come."""
    conditions = dict(all_conditions(model))
    web = web_of(model, conditions)
    ranks = ranks_in(web)
    held = [held for held in conditions if ranks.get(last_marked(held), 0) is None][0]
    marked, signs, seen = last_marked(held), [], {}
    while marked not in seen:
        seen[marked] = len(signs)
        signs.append([sign for sign in kinds(model) if ranks.get(web[marked][sign], 0) is None][-1])
        marked = web[marked][signs[-1]]
    return "never", conditions[held], tuple(signs[:seen[marked]]), tuple(signs[seen[marked]:])


class Within(unittest.TestCase):
    def check(self, model, number, conditions, ranks):
        told = accepts_delay(model, ("within", number, conditions, ranks))
        self.assertIs(told, accepted_by_words(model, number, conditions, ranks))
        return told

    def test_other_numbers(self):
        for model in WITHIN:
            _, number, conditions, ranks = delay_evidence(model)
            for other in (number + 1, number + 7, 10 ** 30):
                self.assertIs(self.check(model, other, conditions, ranks), True)
            for other in (number - 1, -1, -(10 ** 30)):
                self.assertIs(self.check(model, other, conditions, ranks), False)
            self.assertIs(accepts_delay(model, ("within", True, conditions, ranks)), False)
            self.assertIs(accepts_delay(model, ("within", False, conditions, ranks)), False)

    def test_conditions_left_out(self):
        source = Random(561)
        for model in WITHIN:
            _, number, conditions, ranks = delay_evidence(model)
            for at in some_places(conditions, source):
                self.assertIs(self.check(model, number, without(conditions, at), ranks), False)
            self.assertIs(self.check(model, number, (), ranks), False)
            self.assertIs(self.check(model, number, conditions + conditions[-1:], ranks), False)
            self.assertIs(self.check(model, number, conditions[::-1], ranks), len(conditions) == 1)

    def test_ranks_left_out(self):
        source, told_of = Random(562), {True: 0, False: 0}
        for model in WITHIN:
            _, number, conditions, ranks = delay_evidence(model)
            for at in some_places(ranks, source, 10):
                told_of[self.check(model, number, conditions, without(ranks, at))] += 1
        # All that are told come, and each is asked for.
        self.assertEqual(told_of[True], 0)
        self.assertGreater(told_of[False], 50)

    def test_ranks_changed(self):
        source, told_of = Random(563), {True: 0, False: 0}
        for model in WITHIN:
            _, number, conditions, ranks = delay_evidence(model)
            for at in some_places(ranks, source):
                marked, rank = ranks[at]
                for other in (rank - 1, rank + 1, 0, -1, 1, number, number + 1, 10 ** 30):
                    told_of[self.check(model, number, conditions, put(ranks, at, (marked, other)))] += 1
                for other in (True, None, "1", 1.0, (1,), [1]):
                    value = ("within", number, conditions, put(ranks, at, (marked, other)))
                    self.assertIs(accepts_delay(model, value), False)
        self.assertGreater(min(told_of.values()), 20)

    def test_a_rank_that_is_less_by_one(self):
        for model in WITHIN:
            _, number, conditions, ranks = delay_evidence(model)
            for at, (marked, rank) in enumerate(ranks):
                self.assertIs(self.check(model, number, conditions, put(ranks, at, (marked, rank - 1))), False)

    def test_all_ranks_greater(self):
        for model in WITHIN:
            _, number, conditions, ranks = delay_evidence(model)
            for more in (1, 5):
                greater = tuple((marked, rank + more) for marked, rank in ranks)
                self.assertIs(self.check(model, number, conditions, greater), not ranks)
                self.assertIs(self.check(model, number + more, conditions, greater), True)
            doubled = tuple((marked, 2 * rank) for marked, rank in ranks)
            self.assertIs(self.check(model, 2 * number, conditions, doubled), True)

    def test_ranks_doubled_or_out_of_order(self):
        for model in [model for model in WITHIN if delay(model)]:
            _, number, conditions, ranks = delay_evidence(model)
            for at in range(min(8, len(ranks))):
                again = ranks[:at] + ranks[at:at + 1] + ranks[at:]
                self.assertIs(self.check(model, number, conditions, again), False)
                greater = ranks[:at + 1] + ((ranks[at][0], ranks[at][1] + 1),) + ranks[at + 1:]
                self.assertIs(self.check(model, number, conditions, greater), False)
            for at in range(min(8, len(ranks) - 1)):
                other = ranks[:at] + (ranks[at + 1], ranks[at]) + ranks[at + 2:]
                self.assertIs(self.check(model, number, conditions, other), False)
            self.assertIs(self.check(model, number, conditions, ranks[::-1]), len(ranks) == 1)

    def test_marks_changed(self):
        source = Random(564)
        for model in WITHIN:
            _, number, conditions, ranks = delay_evidence(model)
            for at in some_places(ranks, source):
                (costs, order, marks), rank = ranks[at]
                for state in states_of(model):
                    for mark in states_of(model):
                        other = put(ranks, at, ((costs, order, put(marks, state, mark)), rank))
                        self.check(model, number, conditions, tuple(sorted(other)))

    def test_ranks_of_more_than_what_comes(self):
        told_of = {True: 0, False: 0}
        for seed, model in enumerate(WITHIN):
            for many in (1, 3):
                conditions = set_with(model, any_conditions(model, seed, many))
                ranks = ranks_in(web_of(model, conditions))
                if None not in ranks.values():
                    number = max((ranks.get(last_marked(held), 0) for held in conditions), default=0)
                    told = tuple(sorted(ranks.items()))
                    self.assertIs(self.check(model, number, conditions, told), True)
                    self.assertIs(self.check(model, number - 1, conditions, told), False)
                    told_of[number > delay(model)] += 1
        self.assertGreater(sum(told_of.values()), 20)

    def test_ranks_of_decided_ones_do_no_harm(self):
        decided = (((0, 9), (0, 1), (0, 0)), 1)
        _, number, conditions, ranks = delay_evidence(LATER)
        self.assertFalse(is_open(LATER, decided[0]))
        self.assertIs(self.check(LATER, number, conditions, (decided,) + ranks), True)
        self.assertIs(accepts_delay(FREE, ("within", 0, (((0, 0, 0), (0, 1, 2)),), ())), True)

    def test_a_condition_with_a_rank_greater_than_the_number(self):
        held = ((1, 0), (0, 1))
        ranks = ((held + ((0, 1),), 2),)
        self.assertIs(accepts_delay(LATER, ("within", 1, (held,), ranks)), False)
        self.assertIs(accepts_delay(LATER, ("within", 2, (held,), ranks)), True)


class Never(unittest.TestCase):
    def check(self, model, signs, further, again):
        told = accepts_delay(model, ("never", signs, further, again))
        self.assertIs(told, never_by_words(model, signs, further, again))
        return told

    def test_each_part_changed(self):
        source, told_of = Random(57), {True: 0, False: 0}
        for model in NEVER:
            _, *parts = delay_evidence(model)
            for part in range(3):
                for at in some_places(parts[part], source):
                    for other in [without(parts[part], at)] + [put(parts[part], at, sign) for sign in kinds(model)]:
                        told_of[self.check(model, *put(tuple(parts), part, other))] += 1
                longer = parts[part] + (source.choice(kinds(model)),)
                told_of[self.check(model, *put(tuple(parts), part, longer))] += 1
        self.assertGreater(min(told_of.values()), 5)

    def test_any_signs(self):
        source, told_of = Random(571), {True: 0, False: 0}
        for model in NEVER + [LATER, TOLD]:
            for _ in range(40):
                signs, further, again = [
                    tuple(source.choice(kinds(model)) for _ in range(source.randint(least, 3))) for least in (1, 0, 1)
                ]
                told_of[self.check(model, signs, further, again)] += 1
        self.assertGreater(min(told_of.values()), 10)

    def test_the_round_as_often_as_wanted(self):
        for model in NEVER:
            _, signs, further, again = delay_evidence(model)
            for many in (2, 3, 10):
                self.assertIs(self.check(model, signs, further, again * many), True)
                self.assertIs(self.check(model, signs, further + again * many, again), True)

    def test_no_signs(self):
        for further in ((), (0, 1), (1, 0)):
            self.assertIs(accepts_delay(TURNS, ("never", (), further, (0, 1))), False)
            self.assertIs(accepts_delay(TURNS, ("never", (1,), further, ())), False)
        self.assertIs(accepts_delay(TURNS, ("never", (1,), (), (0, 1))), True)

    def test_two_thousand_signs_and_one_more(self):
        # Behind the sign 1, the sign 2 changes nothing, however often it comes.
        model = ((0, 0), ((0, 1), (1, 0)), ((0, 1, 0), (1, 0, 0)))
        least = ((1,), (), (2,))
        for part in range(3):
            for many in (2, 1999, 2000, 2001, 2002, 4000):
                signs = (1,) + (2,) * (many - 1) if part == 0 else (2,) * many
                told = accepts_delay(model, ("never", *put(least, part, signs)))
                self.assertIs(told, many <= 2000, (part, many))
        self.assertIs(accepts_delay(model, ("never", (1,) + (2,) * 1999, (2,) * 2000, (2,) * 2000)), True)

    def test_what_is_decided(self):
        self.assertIs(accepts_delay(TURNS, ("never", (1,), (0,), (0, 1))), False)
        self.assertIs(accepts_delay(TURNS, ("never", (0,), (), (0,))), False)
        self.assertIs(accepts_delay(LATER, ("never", (0,), (), (0,))), False)
        for model in (ALONE, LEAST, FREE):
            self.assertIs(accepts_delay(model, ("never", (0,), (), (0,))), False)

    def test_the_same_condition_with_other_marks(self):
        seen = 0
        for model in [model for model in NEVER if len(model[0]) > 2]:
            for held, signs in all_conditions(model)[:20]:
                for again in [again for again in all_signs(model, 3) if again]:
                    marked = marked_with_all(model, last_marked(held), again)
                    if marked[:2] == held and marked != last_marked(held) and is_open(model, marked):
                        self.assertIs(accepts_delay(model, ("never", signs, (), again)), False)
                        self.check(model, signs, again, again)
                        seen += 1
        self.assertGreater(seen, 5)


class OtherForms(unittest.TestCase):
    def test_values_that_are_no_evidence(self):
        for model in (TURNS, LATER, THREE, ALONE):
            told = delay_evidence(model)
            wrong = STRANGE + [
                0, (), told[:1], told[:2], told[:3], told + (0,), told + ((),), list(told), (told,), told[::-1],
                ("Within", *told[1:]), ("", *told[1:]), (None, *told[1:]), (0, *told[1:]), (True, *told[1:]),
                ([told[0]], *told[1:]), ((told[0],), *told[1:]), (told[0].upper(), *told[1:]), (b"never", *told[1:]),
                ("never" if told[0] == "within" else "within", *told[1:]), "never", "with", ["never", (1,), (), (0, 1)],
            ]
            for value in wrong:
                self.assertIs(accepts_delay(model, value), False, value)
            self.assertIs(accepts_delay(model, told), True)

    def test_parts_of_other_forms(self):
        for model in (TURNS, LATER, DELAYED[0], ALONE):
            told = delay_evidence(model)
            for part in (1, 2, 3):
                items = [list(told[part])] if part > 1 else []
                for item in STRANGE + items + [-1, "0", (None,), ([],), (-1,), (3,), (True,), ((0,),), {0: 0}]:
                    # The empty tuple and the like may be right; these are not.
                    self.assertIs(accepts_delay(model, put(told, part, item)), False, (part, item))

    def test_members_of_other_forms(self):
        _, number, conditions, ranks = delay_evidence(LATER)
        self.assertEqual((number, len(conditions), len(ranks)), (1, 1, 1))
        (costs, order, marks), rank = ranks[0]
        for item in STRANGE + [
            0, (), ranks[0][:1], ranks[0] + (1,), list(ranks[0]), (rank, ranks[0][0]), (list(ranks[0][0]), rank),
            ((costs, order), rank), ((costs, order, marks, marks), rank), ((list(costs), order, marks), rank),
            ((costs, list(order), marks), rank), ((costs, order, list(marks)), rank), ((costs, order, (0,)), rank),
            ((costs, order, (0, 1, 1)), rank), ((costs, order, (0, 2)), rank), ((costs, order, (0, -1)), rank),
            ((costs, order, (False, True)), rank), ((costs, order, (0, True)), rank), ((costs, order, (0, None)), rank),
            (((1, 1), order, marks), rank), (((10, 0), order, marks), rank), (((1, -1), order, marks), rank),
            (((True, False), order, marks), rank), ((costs, (0, 0), marks), rank), ((costs, (0, True), marks), rank),
            ((costs, order, None), rank), (None, rank), (ranks[0][0], None), (ranks[0][0], True), (ranks[0][0], "1"),
        ]:
            for other in ((item,), (item,) + ranks, ranks + (item,)):
                self.assertIs(accepts_delay(LATER, ("within", 1, conditions, other)), False, item)
        for item in STRANGE + [0, (costs,), (costs, list(order)), ((1, True), order), ((10, 0), order), (costs, (0, 0))]:
            for other in ((item,), (item,) + conditions, conditions + (item,)):
                self.assertIs(accepts_delay(LATER, ("within", 1, other, ranks)), False, item)
        self.assertTrue(is_closed_set(LATER, conditions))

    def test_signs_of_other_forms(self):
        for part, right in enumerate(((1,), (), (0, 1))):
            for item in (2, -1, True, False, None, "0", (0,), [0], 0.0, 10 ** 30):
                for wrong in (right + (item,), (item,) + right):
                    value = ("never", *put(((1,), (), (0, 1)), part, wrong))
                    self.assertIs(accepts_delay(TURNS, value), False, value)
        self.assertIs(accepts_delay(TURNS, ("never", (1,), (), (False, True))), False)
        self.assertIs(accepts_delay(TURNS, ("never", (True,), (), (0, 1))), False)


if __name__ == "__main__":
    unittest.main()
