"""Point 2: the same calls return the same, and arguments stay as they are."""

import copy
import unittest

from surepast.best import accepts_best, best_row, ending_row, told_floors
from surepast.conditions import all_conditions, can_win, condition, is_closed_set, origins, with_sign
from surepast.counting import count_open, index_open, nth_open, worst_signs
from surepast.delays import accepts_delay, delay, delay_evidence, undecided
from surepast.errors import PastError
from surepast.futures import first_signs, is_closed, profile, profiles, spread, with_ahead
from surepast.made import raised, renamed, without
from surepast.models import cost_of, is_better, is_model, is_signs, steps
from surepast.sure import accepts_sure, decided_by, sure_states, survivors
from surepast.waiting import accepts_open, open_time, told_signs
from tests.samples import ALONE, DEAR, DELAYED, LATER, THREE, TOLD, TOO_FULL, TURNS

CALLS = [
    (is_model, (TOLD,)), (is_model, ([[0], [[0]], [[0]]],)), (is_model, (([0], [[0]], [[0]]),)), (is_model, ({"a": [1]},)),
    (is_model, (((0, 2), [[1, 0], [0, 1]], [[0], [1]]),)),
    (is_signs, ((0, 1), TOLD)), (is_signs, ([1, 0], TOLD)), (is_signs, (([1], 0), TOLD)),
    (cost_of, (TOLD, (0, 1, 1), (0, 1, 0))), (cost_of, ([1], [2], [3])), (cost_of, (TOLD, (1,), [1])),
    (cost_of, (TOLD, [1, 0], (1, 0))),
    (steps, (THREE, (2, 1, 0), (2, 1, 0))), (steps, (THREE, (2, 1, 0), [2, 1, 0])),
    (is_better, (THREE, (2, 1), (2, 1), (1, 0))), (is_better, (THREE, (2, 1), (2, 1), [2, 0])),
    (raised, (TOLD, "change", 2)), (raised, (DEAR, "show", 1)), (raised, (TOLD, ["show"], 1)), (raised, (TOLD, "show", [1])),
    (renamed, (THREE, (2, 0, 1))), (renamed, (THREE, [2, 0, 1])), (renamed, ([], [2, 0, 1])),
    (without, (THREE, 1)), (without, (ALONE, 0)), (without, (THREE, [1])),
    (best_row, (THREE, (0, 2, 1))), (best_row, (TOLD, [0, 1])), (ending_row, (THREE, (0, 2, 1), 2)),
    (ending_row, (TOLD, (0,), [0])), (told_floors, (THREE, (0, 2, 1))), (told_floors, ([], [])),
    (accepts_best, (TURNS, (1, 0), (0, 0), ((0, 1), (0, 0)))), (accepts_best, (TURNS, (1, 0), (0, 0), [[0, 1], [0, 0]])),
    (accepts_best, (TURNS, (1, 0), (0, 0), ([0, 1], [0, 0]))), (accepts_best, (TURNS, (1, 0), [0, 0], {0: [1]})),
    (profile, (THREE, (2, 1, 0))), (profile, (THREE, [2, 1, 0])), (with_ahead, (THREE, 1, (5, -7, 0))),
    (with_ahead, (THREE, 1, [5, -7, 0])), (profiles, (THREE,)), (profiles, ([THREE],)), (first_signs, (THREE,)),
    (first_signs, ([],)), (spread, (THREE,)), (is_closed, (TURNS, ((0, 0), (0, 1), (1, 0)))),
    (is_closed, (TURNS, [(1, 0), (0, 1), (0, 0)])), (is_closed, (TURNS, ([1, 0], [0, 1], [0, 0]))),
    (decided_by, (TURNS, (1, 1), ((0, 0), (0, 1), (0, 3), (1, 0)))), (decided_by, (TURNS, (1, 1), [(1, 0), (0, 0)])),
    (sure_states, (THREE, (0, 2, 1))), (sure_states, (THREE, [0, 2, 1])), (survivors, (THREE, (1, 0, 0))),
    (survivors, (TURNS, ())), (survivors, (TURNS, [])), (accepts_sure, (TURNS, (1, 1), 2, ((0, 0), (0, 1), (1, 0)))),
    (accepts_sure, (TURNS, (1, 1), 2, [(1, 0), (0, 1), (0, 0)])), (open_time, (TURNS, (1,))), (open_time, (TURNS, [1])),
    (told_signs, (TURNS, (1,))), (told_signs, (TURNS, [1, 1])), (accepts_open, (TURNS, (1,), 0, ((0,), ()))),
    (accepts_open, (TURNS, (1,), 0, ([0], []))), (accepts_open, (TURNS, (1,), 0, [(0,), ()])),
    (condition, (THREE, (0, 2, 1) * 60)), (condition, (THREE, [0, 2, 1])), (all_conditions, (THREE,)), (all_conditions, (7,)),
    (origins, (THREE, ((0, 5, 9), (2, 1, 0)), 1)), (origins, (THREE, ([0, 5, 9], [2, 1, 0]), 1)),
    (with_sign, (THREE, ((0, 5, 9), (2, 1, 0)), 1)), (with_sign, (THREE, [[0, 5, 9], [2, 1, 0]], 1)),
    (can_win, (THREE, ((0, 1, 2), (2, 1, 0)))), (can_win, (THREE, ([0], [1]))),
    (is_closed_set, (LATER, (((1, 0), (0, 1)),))), (is_closed_set, (LATER, [((1, 0), (0, 1))])),
    (is_closed_set, (LATER, (([1, 0], [1, 0]),))), (is_closed_set, (LATER, {1: [2]})),
    (delay, (TURNS,)), (delay, (DELAYED[3],)), (delay, (TOO_FULL[0],)), (delay, ([1],)), (undecided, (DELAYED[3], 4)),
    (undecided, (DELAYED[3], 5)), (undecided, (TOO_FULL[0], 5)), (undecided, (TURNS, [1])),
    (delay_evidence, (TURNS,)), (delay_evidence, (DELAYED[3],)), (delay_evidence, (TOO_FULL[0],)),
    (accepts_delay, (TURNS, ("never", (1,), (), (0, 1)))), (accepts_delay, (TURNS, ["never", (1,), (), (0, 1)])),
    (accepts_delay, (TURNS, ("never", [1], [], [1, 0]))), (accepts_delay, (DELAYED[3], delay_evidence(DELAYED[3]))),
    (accepts_delay, (LATER, ("within", 1, [((1, 0), (0, 1))], [[[2], 1], [[1], 1]]))),
    (accepts_delay, (LATER, ("within", 1, (((1, 0), (0, 1)),), ((([1, 0], [1, 0], [1, 0]), 1),)))),
    (count_open, (THREE, 9)), (count_open, (THREE, [9])), (nth_open, (THREE, 9, 2, 30)), (nth_open, (THREE, 9, 2, [30])),
    (index_open, (THREE, (2, 1, 0))), (index_open, (THREE, [2, 1, 0])), (worst_signs, (THREE, 9)), (worst_signs, ({}, 9)),
]


def outcome(call, arguments):
    """What the call returns, or what it raises."""
    try:
        return "returns", call(*arguments)
    except PastError as error:
        return error.__class__, vars(error)


class TheSame(unittest.TestCase):
    def test_arguments_stay_as_they_are(self):
        for call, arguments in CALLS:
            kept = copy.deepcopy(arguments)
            outcome(call, arguments)
            self.assertEqual(repr(arguments), repr(kept))

    def test_again_and_with_equal_arguments(self):
        first = [outcome(call, arguments) for call, arguments in CALLS]
        again = [outcome(call, arguments) for call, arguments in CALLS]
        backwards = [outcome(call, copy.deepcopy(arguments)) for call, arguments in reversed(CALLS)]
        self.assertEqual(again, first)
        self.assertEqual(backwards[::-1], first)

    def test_a_returned_list_that_is_changed_changes_no_later_call(self):
        lists = 0
        for call, arguments in CALLS:
            told = outcome(call, arguments)[1]
            if isinstance(told, list):
                kept = copy.deepcopy(told)
                told.append("more")
                told.reverse()
                self.assertEqual(call(*arguments), kept)
                call(*arguments).clear()
                self.assertEqual(call(*arguments), kept)
                lists += 1
        self.assertGreaterEqual(lists, 4)


if __name__ == "__main__":
    unittest.main()
