"""Point 2: the same calls return the same, and arguments stay as they are."""

import copy
import unittest

from surepast.best import accepts_best, best_row, ending_row, told_floors
from surepast.changing import best_changed, best_with, changed_cost, is_place, overtakes, room, uses
from surepast.conditions import all_conditions, can_win, condition, is_closed_set, origins, with_sign
from surepast.counting import count_open, index_open, nth_open, worst_signs
from surepast.delays import accepts_delay, delay, delay_evidence, undecided
from surepast.errors import PastError
from surepast.futures import first_signs, is_closed, profile, profiles, spread, with_ahead
from surepast.journals import are_right, replayed
from surepast.made import raised, renamed, without
from surepast.met import accepts_met, agreed, met, met_evidence
from surepast.models import cost_of, is_better, is_model, is_signs, steps
from surepast.near import count_near, index_of_near, nth_near, second_best
from surepast.reading import next_tokens, read_model, read_row, read_signs
from surepast.scanning import scan
from surepast.sure import accepts_sure, decided_by, sure_states, survivors
from surepast.waiting import accepts_open, open_time, told_signs
from surepast.watcher import Watcher
from surepast.writing import model_text, row_text, signs_text
from tests.samples import ALONE, DEAR, DELAYED, LATER, THREE, TOLD, TOO_FULL, TURNS

SEEN = (("see", 0), (0,), profiles(TOLD), (0,))
CALLS = [
    (is_model, (TOLD,)), (is_model, ([[0], [[0]], [[0]]],)), (is_model, (([0], [[0]], [[0]]),)), (is_model, ({"a": [1]},)),
    (is_model, (((0, 2), [[1, 0], [0, 1]], [[0], [1]]),)),
    (is_signs, ((0, 1), TOLD)), (is_signs, ([1, 0], TOLD)), (is_signs, (([1], 0), TOLD)),
    (cost_of, (TOLD, (0, 1, 1), (0, 1, 0))), (cost_of, ([1], [2], [3])), (cost_of, (TOLD, (1,), [1])),
    (cost_of, (TOLD, [1, 0], (1, 0))),
    (steps, (THREE, (2, 1, 0), (2, 1, 0))), (steps, (THREE, (2, 1, 0), [2, 1, 0])),
    (is_better, (THREE, (2, 1), (2, 1), (1, 0))), (is_better, (THREE, (2, 1), (2, 1), [2, 0])),
    (raised, (TOLD, "change", 2)), (raised, (DEAR, "show", 1)), (raised, (TOLD, ["show"], 1)), (raised, (TOLD, "show", [1])),
    (renamed, (THREE, (2, 0, 1))), (renamed, (THREE, [2, 0, 1])), (renamed, ([], [2, 0, 1])),
    (without, (THREE, 1)), (without, (ALONE, 0)), (without, (THREE, [1])),
    (best_row, (THREE, (0, 2, 1))), (best_row, (TOLD, [0, 1])), (ending_row, (THREE, (0, 2, 1), 2)),
    (ending_row, (TOLD, (0,), [0])), (told_floors, (THREE, (0, 2, 1))), (told_floors, ([], [])),
    (accepts_best, (TURNS, (1, 0), (0, 0), ((0, 1), (0, 0)))), (accepts_best, (TURNS, (1, 0), (0, 0), [[0, 1], [0, 0]])),
    (accepts_best, (TURNS, (1, 0), (0, 0), ([0, 1], [0, 0]))), (accepts_best, (TURNS, (1, 0), [0, 0], {0: [1]})),
    (profile, (THREE, (2, 1, 0))), (profile, (THREE, [2, 1, 0])), (with_ahead, (THREE, 1, (5, -7, 0))),
    (with_ahead, (THREE, 1, [5, -7, 0])), (profiles, (THREE,)), (profiles, ([THREE],)), (first_signs, (THREE,)),
    (first_signs, ([],)), (spread, (THREE,)), (is_closed, (TURNS, ((0, 0), (0, 1), (1, 0)))),
    (is_closed, (TURNS, [(1, 0), (0, 1), (0, 0)])), (is_closed, (TURNS, ([1, 0], [0, 1], [0, 0]))),
    (decided_by, (TURNS, (1, 1), ((0, 0), (0, 1), (0, 3), (1, 0)))), (decided_by, (TURNS, (1, 1), [(1, 0), (0, 0)])),
    (sure_states, (THREE, (0, 2, 1))), (sure_states, (THREE, [0, 2, 1])), (survivors, (THREE, (1, 0, 0))),
    (survivors, (TURNS, ())), (survivors, (TURNS, [])), (accepts_sure, (TURNS, (1, 1), 2, ((0, 0), (0, 1), (1, 0)))),
    (accepts_sure, (TURNS, (1, 1), 2, [(1, 0), (0, 1), (0, 0)])), (open_time, (TURNS, (1,))), (open_time, (TURNS, [1])),
    (told_signs, (TURNS, (1,))), (told_signs, (TURNS, [1, 1])), (accepts_open, (TURNS, (1,), 0, ((0,), ()))),
    (accepts_open, (TURNS, (1,), 0, ([0], []))), (accepts_open, (TURNS, (1,), 0, [(0,), ()])),
    (condition, (THREE, (0, 2, 1) * 60)), (condition, (THREE, [0, 2, 1])), (all_conditions, (THREE,)), (all_conditions, (7,)),
    (origins, (THREE, ((0, 5, 9), (2, 1, 0)), 1)), (origins, (THREE, ([0, 5, 9], [2, 1, 0]), 1)),
    (with_sign, (THREE, ((0, 5, 9), (2, 1, 0)), 1)), (with_sign, (THREE, [[0, 5, 9], [2, 1, 0]], 1)),
    (can_win, (THREE, ((0, 1, 2), (2, 1, 0)))), (can_win, (THREE, ([0], [1]))),
    (is_closed_set, (LATER, (((1, 0), (0, 1)),))), (is_closed_set, (LATER, [((1, 0), (0, 1))])),
    (is_closed_set, (LATER, (([1, 0], [1, 0]),))), (is_closed_set, (LATER, {1: [2]})),
    (delay, (TURNS,)), (delay, (DELAYED[3],)), (delay, (TOO_FULL[0],)), (delay, ([1],)), (undecided, (DELAYED[3], 4)),
    (undecided, (DELAYED[3], 5)), (undecided, (TOO_FULL[0], 5)), (undecided, (TURNS, [1])),
    (delay_evidence, (TURNS,)), (delay_evidence, (DELAYED[3],)), (delay_evidence, (TOO_FULL[0],)),
    (accepts_delay, (TURNS, ("never", (1,), (), (0, 1)))), (accepts_delay, (TURNS, ["never", (1,), (), (0, 1)])),
    (accepts_delay, (TURNS, ("never", [1], [], [1, 0]))), (accepts_delay, (DELAYED[3], delay_evidence(DELAYED[3]))),
    (accepts_delay, (LATER, ("within", 1, [((1, 0), (0, 1))], [[[2], 1], [[1], 1]]))),
    (accepts_delay, (LATER, ("within", 1, (((1, 0), (0, 1)),), ((([1, 0], [1, 0], [1, 0]), 1),)))),
    (count_open, (THREE, 9)), (count_open, (THREE, [9])), (nth_open, (THREE, 9, 2, 30)), (nth_open, (THREE, 9, 2, [30])),
    (index_open, (THREE, (2, 1, 0))), (index_open, (THREE, [2, 1, 0])), (worst_signs, (THREE, 9)), (worst_signs, ({}, 9)),
    (count_near, (THREE, (0, 2, 1), 4)), (count_near, (THREE, [0, 2, 1], 4)), (nth_near, (THREE, (0, 2, 1), 4, 3)),
    (nth_near, (THREE, (0, 2, 1), 4, [3])), (index_of_near, (THREE, (0, 2, 1), 9, (0, 0, 1))),
    (index_of_near, (THREE, (0, 2, 1), 9, [0, 0, 1])), (second_best, (THREE, (0, 2, 1))), (second_best, (ALONE, [0])),
    (met, (THREE, (0, 2, 1), 4)), (met, (THREE, (0, 2, 1), [4])), (agreed, (THREE, (0, 2, 1), 2)), (agreed, ([2], (0,), 2)),
    (met_evidence, (THREE, (0, 2, 1), 4, 1, 2)), (met_evidence, (THREE, (0, 2, 1), 0, 1, 2)),
    (met_evidence, (THREE, (0, 2, 1), 0, [1], 2)), (accepts_met, (TOLD, (0,), 4, 0, 1, ("met", (1,), ((0, 4),)))),
    (accepts_met, (TOLD, (0,), 4, 0, 1, ["met", (1,), ((4, 0),)])), (accepts_met, (TOLD, (0,), 4, 0, 1, ("met", [1], [[4, 0]]))),
    (accepts_met, (TOLD, (0,), 0, 0, 1, ("not", (0,), ((0, 4),), [[5, 0]]))),
    (is_place, (("show", 0, 1), TOLD)), (is_place, (["show", 1, 0], TOLD)), (is_place, (("show", [1, 0], {}), TOLD)),
    (uses, (TOLD, (0, 0, 1), ("change", 0, 0), (0, 0, 0))), (uses, (TOLD, (0, 0, 1), ["change", 0, 0], [0, 0, 0])),
    (changed_cost, (TOLD, (0, 0, 1), ("change", 0, 0), -3, (0, 0, 0))), (changed_cost, (TOLD, [1, 0], [1], [2], [3])),
    (best_with, (THREE, (0, 2, 1), ("show", 0, 2), 1)), (best_with, (THREE, (0, 2, 1), ("show", 0, 2), 2)),
    (best_with, (THREE, [2, 1], ("show", 0, 2), 2)), (best_changed, (THREE, (0, 2, 1), ("show", 0, 2), -3)),
    (best_changed, (THREE, (0, 2, 1), ["show", 2, 0], -3)), (room, (THREE, (0, 2, 1), ("show", 0, 2))),
    (room, (THREE, (0, 2, 1), ["show", 2, 0])), (overtakes, (TURNS, (0, 0, 1), ("begin", 0), 2, (1, 1, 1))),
    (overtakes, (TURNS, (0, 0, 1), ("begin", 0), 2, [1, 1, 0])), (scan, ("0 1 | 2, 3",)), (scan, ("",)), (scan, ("1 x",)),
    (scan, (["1", "0"],)), (next_tokens, ("0 | 1", "model")), (next_tokens, ("", "numbers")), (next_tokens, ("|", ["model"])),
    (next_tokens, ("|", "model")), (read_model, ("0 2 | 0 1, 1 0 | 0 2, 2 0",)), (read_model, ("0 2 | 0 1 | 0, 1",)),
    (read_model, (["0"],)), (read_signs, (TOLD, "0 1 1")), (read_signs, ([1, 0], "0")), (read_row, (TOLD, "0 1 1")),
    (read_row, (TOLD, "0 7")), (model_text, (THREE,)), (model_text, ([[1, 0]],)), (signs_text, (THREE, (2, 1, 0))),
    (signs_text, (THREE, [2, 1, 0])), (row_text, (THREE, (2, 1, 0))), (row_text, (THREE, [2, 1, 0])),
    (are_right, (TOLD, (SEEN,))), (are_right, (TOLD, [list(SEEN)])), (are_right, (TOLD, (("see", 1), [1], [[1], [0]], [1]))),
    (are_right, (TOLD, ((*SEEN[:2], [(1, 0), (0, 0)], [1]),))), (replayed, (TOLD, [("see", 0)])), (replayed, ([1, 0], ())),
    (replayed, (TOLD, (["see", 0],))), (Watcher, ([1, 0],)),
]


def outcome(call, arguments):
    """What the call returns, or what it raises."""
    try:
        return "returns", call(*arguments)
    except PastError as error:
        return error.__class__, vars(error)


class TheSame(unittest.TestCase):
    def test_arguments_stay_as_they_are(self):
        for call, arguments in CALLS:
            kept = copy.deepcopy(arguments)
            outcome(call, arguments)
            self.assertEqual(repr(arguments), repr(kept))

    def test_again_and_with_equal_arguments(self):
        first = [outcome(call, arguments) for call, arguments in CALLS]
        again = [outcome(call, arguments) for call, arguments in CALLS]
        backwards = [outcome(call, copy.deepcopy(arguments)) for call, arguments in reversed(CALLS)]
        self.assertEqual(again, first)
        self.assertEqual(backwards[::-1], first)

    def test_a_returned_list_that_is_changed_changes_no_later_call(self):
        lists = 0
        for call, arguments in CALLS:
            told = outcome(call, arguments)[1]
            if isinstance(told, list):
                kept = copy.deepcopy(told)
                told.append("more")
                told.reverse()
                self.assertEqual(call(*arguments), kept)
                call(*arguments).clear()
                self.assertEqual(call(*arguments), kept)
                lists += 1
        self.assertEqual(lists, 8)


class WhatAnObjectIsGiven(unittest.TestCase):
    def told_by(self, watcher):
        return [
            watcher.signs(), watcher.journal(), watcher.best(), watcher.sure(), watcher.first_sights(), watcher.records(),
        ]

    def test_watchers_of_equal_models(self):
        journal = (("see", 2), ("see", 0), ("back",), ("see", 1))
        told = self.told_by(replayed(THREE, journal))
        for _ in range(2):
            model = copy.deepcopy(THREE)
            watcher = replayed(model, copy.deepcopy(journal))
            self.assertEqual(self.told_by(watcher), told)
            self.assertEqual(self.told_by(watcher.twin()), told)
            self.assertEqual(repr(model), repr(THREE))

    def test_what_is_refused_stays_as_it_is(self):
        watcher = Watcher(TOLD)
        for command in (["see", 0], ("see", [0]), [["back"]], {"see": [0]}):
            kept = copy.deepcopy(command)
            self.assertEqual(outcome(watcher.act, (command,))[0].__name__, "BadValue")
            self.assertEqual(command, kept)
            self.assertEqual(watcher.journal(), ())

    def test_the_same_watcher_again_and_again(self):
        watcher = replayed(TURNS, (("see", 1), ("see", 1), ("see", 0)))
        self.assertEqual([self.told_by(watcher) for _ in range(3)], [self.told_by(watcher)] * 3)


if __name__ == "__main__":
    unittest.main()
