"""Points 8, 91 and 101: which argument is told to be wrong, in the modules of near rows and of changed costs."""

import unittest

from surepast.changing import best_changed, best_with, changed_cost, is_place, overtakes, room, uses
from surepast.met import accepts_met, agreed, met, met_evidence
from surepast.near import count_near, index_of_near, nth_near, second_best
from tests.samples import ALONE, FREE, LATER, LEAST, STRANGE, THREE, TOLD, TURNS
from tests.wrongs import JUDGED, MODEL, ROWS, SIGNS, STATES, WrongArguments

MARGINS = STRANGE + [-1, 31, 32, 100, -(10 ** 30), 10 ** 30, "0", (0,), 0.0, 30.0]
# Four rows are near within the margin 30.
INDEXES = STRANGE + [-1, 4, 5, 10 ** 30, "0", (0,), 0.0]
TIMES = STRANGE + [-1, 2, 3, 20, 10 ** 30, "0", (0,), 0.0]
# The model has two states and two signs.
PLACES = STRANGE + [
    0, (), (0,), ("begin",), ("begin", 2), ("begin", -1), ("begin", 0, 0), ("change", 0), ("change", 0, 2), ("change", 2, 0),
    ("change", -1, 0), ("show", 0), ("show", 0, 2), ("show", 2, 0), ("show", 0, -1), ("show", 0, 0, 0), ["show", 0, 0],
    ("Show", 0, 0), ("shows", 0, 0), ("", 0), (None, 0), (0, 0), (0, 0, 0), ("begin", True), ("show", 0, False),
    ("show", True, 0), ("change", None, 0), ("begin", "0"), ("begin", 0.0), ("show", [0], 0), ("begin", (0,)), "show",
    (["begin"], 0), {0: "begin"},
]
CHANGES = STRANGE + [-101, 101, 102, 10 ** 30, -(10 ** 30), "0", (0,), 0.0, 1.5]
MANIES = STRANGE + [-1, 21, 22, 10 ** 30, "0", (0,), 0.0]

TWO = ("signs", (0, 1), SIGNS)
MARGIN = ("margin", 30, MARGINS)
PLACE = ("place", ("show", 1, 1), PLACES)
WHERE = [("time", 1, TIMES), ("state", 1, STATES)]
ROW = ("row", (0, 1), ROWS)
CALLS = [
    (count_near, [MODEL, TWO, MARGIN]),
    (nth_near, [MODEL, TWO, MARGIN, ("index", 3, INDEXES)]),
    (index_of_near, [MODEL, TWO, MARGIN, ROW]),
    (second_best, [MODEL, TWO]),
    (met, [MODEL, TWO, MARGIN]),
    (agreed, [MODEL, TWO, MARGIN]),
    (met_evidence, [MODEL, TWO, MARGIN, *WHERE]),
    (accepts_met, [MODEL, TWO, MARGIN, *WHERE, ("value", ("met", (0, 1), ((0, 4), (2, 1))), JUDGED)]),
    (uses, [MODEL, TWO, PLACE, ROW]),
    (changed_cost, [MODEL, TWO, PLACE, ("by", -100, CHANGES), ROW]),
    (best_with, [MODEL, TWO, PLACE, ("many", 20, MANIES)]),
    (best_changed, [MODEL, TWO, PLACE, ("by", 100, CHANGES)]),
    (room, [MODEL, TWO, PLACE]),
    (overtakes, [MODEL, TWO, PLACE, ("by", 100, CHANGES), ("value", (1, 1), JUDGED)]),
]


class WrongOnes(WrongArguments, unittest.TestCase):
    calls = CALLS

    def test_margins_at_their_ends(self):
        for margin in (0, 30):
            for call in (count_near, met, agreed):
                call(THREE, (0, 1), margin)
            index_of_near(THREE, (0, 1), margin, (0, 1))
            nth_near(THREE, (0, 1), margin, 0)
            met_evidence(THREE, (0, 1), margin, 0, 0)
            accepts_met(THREE, (0, 1), margin, 0, 0, None)

    def test_no_time_without_signs(self):
        for time in (0, -1, 1, True, None):
            for more in ((0,), (9,), (None,)):
                self.assertEqual(self.name_of_error(met_evidence, (TURNS, (), 0, time, *more)), "time")
                self.assertEqual(self.name_of_error(accepts_met, (TURNS, (), 0, time, *more, None)), "time")

    def test_times_are_indexes_of_the_signs(self):
        for many in (1, 2, 20):
            self.assertEqual(self.name_of_error(met_evidence, (TURNS, (0,) * many, 0, many, 0)), "time")
            met_evidence(TURNS, (0,) * many, 0, many - 1, 0)

    def test_states_are_those_of_this_model(self):
        self.assertEqual(self.name_of_error(met_evidence, (ALONE, (2,), 0, 0, 1)), "state")
        self.assertEqual(self.name_of_error(met_evidence, (THREE, (2,), 0, 0, 3)), "state")
        met_evidence(THREE, (2,), 0, 0, 2)

    def test_signs_are_those_of_this_model(self):
        for call, more in ((count_near, (0,)), (met, (0,)), (agreed, (0,)), (second_best, ()), (room, (("begin", 0),))):
            self.assertEqual(self.name_of_error(call, (LATER, (1,), *more)), "signs")
            self.assertEqual(self.name_of_error(call, (ALONE, (3,), *more)), "signs")
            self.assertEqual(self.name_of_error(call, (THREE, (0,) * 21, *more)), "signs")
            call(ALONE, (2,) * 20, *more)
            call(THREE, (), *more)

    def test_indexes_are_those_of_near_rows(self):
        self.assertEqual(self.name_of_error(nth_near, (TOLD, (0, 1, 1), 3, 5)), "index")
        self.assertEqual(self.name_of_error(nth_near, (TOLD, (0, 1, 1), 0, 1)), "index")
        self.assertEqual(self.name_of_error(nth_near, (TOLD, (), 30, 1)), "index")
        self.assertEqual(self.name_of_error(nth_near, (FREE, (0,) * 20, 0, 3 ** 20)), "index")
        nth_near(FREE, (0,) * 20, 0, 3 ** 20 - 1)

    def test_rows_are_for_the_signs(self):
        for call, more in ((index_of_near, (3,)), (uses, (("begin", 0),)), (changed_cost, (("begin", 0), 1))):
            self.assertEqual(self.name_of_error(call, (TOLD, (), *more, (0,))), "row")
            self.assertEqual(self.name_of_error(call, (TOLD, (0,), *more, ())), "row")
            self.assertEqual(self.name_of_error(call, (ALONE, (2,), *more, (1,))), "row")
            self.assertEqual(self.name_of_error(call, (THREE, (2,) * 20, *more, (1,) * 19)), "row")

    def test_places_are_those_of_this_model(self):
        for place in (("begin", 1), ("change", 0, 1), ("show", 1, 0), ("show", 0, 3)):
            for call, more in ((uses, ((),)), (best_with, (0,)), (best_changed, (0,)), (room, ()), (overtakes, (0, ()))):
                self.assertEqual(self.name_of_error(call, (ALONE, (), place, *more)), "place")
        room(ALONE, (), ("show", 0, 2))

    def test_a_change_comes_ahead_of_a_row(self):
        self.assertEqual(self.name_of_error(changed_cost, (TOLD, (0,), ("begin", 0), 101, None)), "by")
        self.assertEqual(self.name_of_error(changed_cost, (TOLD, (0,), ("begin", 2), 101, None)), "place")

    def test_numbers_at_their_ends(self):
        for by in (-100, 100):
            changed_cost(LEAST, (0,), ("begin", 0), by, (0,))
            best_changed(LEAST, (0,), ("begin", 0), by)
            overtakes(LEAST, (0,), ("begin", 0), by, (0,))
        for many in (0, 20):
            best_with(LEAST, (0,), ("begin", 0), many)


class Judges(unittest.TestCase):
    def test_every_value_is_a_place_or_none(self):
        for model in (LEAST, TOLD, THREE):
            for value in JUDGED + PLACES:
                self.assertIn(repr(is_place(value, model)), ("True", "False"), value)


if __name__ == "__main__":
    unittest.main()
