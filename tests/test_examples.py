"""The examples of the interface and of README.md as they stand, and points 18, 29, 40, 52, 63, 73, 82, 92, 102, 113 and 124."""

import doctest
import pathlib
import unittest

from surepast.best import best_row
from surepast.changing import best_changed
from surepast.conditions import condition
from surepast.counting import index_open
from surepast.delays import accepts_delay, delay
from surepast.errors import TextError
from surepast.futures import profile
from surepast.models import cost_of, is_better, is_model, steps
from surepast.near import count_near, nth_near
from surepast.reading import read_model
from surepast.sure import sure_states
from surepast.watcher import Watcher
from surepast.writing import model_text
from tests.samples import TOLD, TURNS

MADE = """
>>> from surepast.made import raised, renamed, without
>>> from surepast.models import cost_of, is_better, is_signs, steps
>>> model = ((0, 2), ((0, 1), (1, 0)), ((0, 2), (2, 0)))
>>> cost_of(model, (0, 1, 1), (0, 1, 1)), steps(model, (0, 1, 1), (0, 1, 0)), is_signs((0, 2), model)
(1, ((0, 0), (1, 0), (1, 2)), False)
>>> is_better(model, (0,), (0,), (1,)), is_better(model, (1,), (1,), (0,))
(True, False)
>>> raised(model, "change", 1), renamed(model, (1, 0))
(((0, 2), ((1, 2), (2, 1)), ((0, 2), (2, 0))), ((2, 0), ((0, 1), (1, 0)), ((2, 0), (0, 2))))
>>> without(model, 0)
((2,), ((0,),), ((2, 0),))
"""


BEST = """
>>> from surepast.best import accepts_best, best_row, ending_row, told_floors
>>> model = ((0, 0), ((0, 1), (1, 0)), ((0, 1), (1, 0)))
>>> best_row(model, (1, 0)), best_row(model, (1,)), best_row(model, ())
(((0, 0), 1), ((1,), 0), ((), 0))
>>> ending_row(model, (1, 0), 1), told_floors(model, (1, 0))
(((1, 1), 1), ((0, 1), (0, 0)))
>>> accepts_best(model, (1, 0), (0, 0), ((0, 1), (0, 0))), accepts_best(model, (1, 0), (1, 1), ((0, 1), (0, 0)))
(True, False)
>>> accepts_best(model, (1, 1), (1, 1), ((0, 0), (0, 0))), accepts_best(model, (1, 1), (1, 1), ((1, 0), (0, -1)))
(True, False)
"""

FUTURES = """
>>> from surepast.futures import first_signs, is_closed, profile, profiles, spread, with_ahead
>>> model = ((0, 0), ((0, 1), (1, 0)), ((0, 1), (1, 0)))
>>> profile(model, ()), profile(model, (0,)), profile(model, (0, 1)), with_ahead(model, 1, (0, 1))
((0, 0), (0, 1), (0, 0), (0, 0))
>>> profiles(model), first_signs(model), spread(model)
(((0, 0), (0, 1), (1, 0)), [((0, 0), ()), ((0, 1), (0,)), ((1, 0), (1,))], 1)
>>> is_closed(model, profiles(model)), is_closed(model, ((0, 0), (0, 1))), is_closed(model, ((0, 0), (0, 1), (0, 5), (1, 0)))
(True, False, True)
"""

SURE = """
>>> from surepast.waiting import accepts_open, open_time, told_signs
>>> from surepast.sure import accepts_sure, decided_by, sure_states, survivors
>>> model = ((0, 0), ((0, 1), (1, 0)), ((0, 1), (1, 0)))
>>> sure_states(model, (1,)), survivors(model, (1,)), sure_states(model, (1, 1)), survivors(model, (1, 1))
((), [(0, (0,)), (1, ())], (1, 1), [(1, ())])
>>> open_time(model, (1,)), told_signs(model, (1,)), open_time(model, (1, 1)), told_signs(model, (1, 1))
(0, ((0,), ()), None, None)
>>> accepts_open(model, (1,), 0, ((0,), ())), accepts_open(model, (1,), 0, ((1,), ()))
(True, False)
>>> decided_by(model, (1, 1), ((0, 0), (0, 1), (0, 3), (1, 0))), accepts_sure(model, (1, 1), 2, ((0, 0), (0, 1), (1, 0)))
((), True)
>>> accepts_sure(model, (1, 1), 1, ((0, 0), (0, 1), (0, 3), (1, 0))), accepts_sure(model, (1, 1), 2, ((0, 0), (0, 1)))
(False, False)
"""

DELAYS = """
>>> from surepast.delays import accepts_delay, delay, delay_evidence, undecided
>>> turns = ((0, 0), ((0, 1), (1, 0)), ((0, 1), (1, 0)))
>>> later = ((0, 0), ((0, 0), (1, 1)), ((1,), (0,)))
>>> delay(turns), delay(later), undecided(later, 0), undecided(later, 1), undecided(turns, 3)
(None, 1, ((0,), ()), None, ((1,), (0, 1, 0)))
>>> delay_evidence(later)
('within', 1, (((1, 0), (0, 1)),), ((((1, 0), (0, 1), (0, 1)), 1),))
>>> accepts_delay(turns, ("never", (1,), (), (0, 1))), accepts_delay(turns, ("never", (1,), (0,), (0, 1))), accepts_delay(later, ("never", (0,), (), (0,)))
(True, False, False)
"""

CONDITIONS = """
>>> from surepast.conditions import all_conditions, can_win, condition, is_closed_set, origins, with_sign
>>> turns = ((0, 0), ((0, 1), (1, 0)), ((0, 1), (1, 0)))
>>> condition(turns, (1,)), origins(turns, ((1, 0), (0, 1)), 0), with_sign(turns, ((1, 0), (0, 1)), 0)
(((1, 0), (0, 1)), (0, 1), ((0, 0), (0, 1)))
>>> can_win(turns, ((1, 0), (0, 1))), can_win(turns, ((0, 1), (0, 1))), can_win(turns, ((0, 0), (0, 1)))
((0, 1), (0,), (0, 1))
>>> later = ((0, 0), ((0, 0), (1, 1)), ((1,), (0,)))
>>> all_conditions(later), is_closed_set(later, (((1, 0), (0, 1)),)), is_closed_set(turns, (((1, 0), (0, 1)),))
([(((1, 0), (0, 1)), (0,))], True, False)
"""

COUNTING = """
>>> from surepast.counting import count_open, index_open, nth_open, worst_signs
>>> turns = ((0, 0), ((0, 1), (1, 0)), ((0, 1), (1, 0)))
>>> count_open(turns, 0), count_open(turns, 1), count_open(turns, 2)
((1,), (1, 1), (2, 1, 1))
>>> nth_open(turns, 2, 0, 1), index_open(turns, (1, 0)), worst_signs(turns, 2), index_open(turns, (1, 1))
((1, 1), (2, 0), (1, 0), (0, 1))
"""

NEAR = """
>>> from surepast.met import accepts_met, agreed, met, met_evidence
>>> from surepast.near import count_near, index_of_near, nth_near, second_best
>>> model = ((0, 2), ((0, 1), (1, 0)), ((0, 2), (2, 0)))
>>> [count_near(model, (0, 1, 1), margin) for margin in (0, 1, 2, 3)], second_best(model, (0, 1, 1))
([1, 1, 2, 5], (0, 0, 1))
>>> [nth_near(model, (0, 1, 1), 3, index) for index in range(5)]
[(0, 1, 1), (0, 0, 1), (0, 0, 0), (0, 1, 0), (1, 1, 1)]
>>> index_of_near(model, (0, 1, 1), 3, (0, 1, 0)), index_of_near(model, (0, 1, 1), 2, (0, 1, 0)) is None
(3, True)
>>> met(model, (0, 1, 1), 2), agreed(model, (0, 1, 1), 2)
(((0,), (0, 1), (1,)), (0, None, 1))
>>> accepts_met(model, (0,), 0, 0, 1, ("not", (0,), ((0, 4),), ((0, 0),))), accepts_met(model, (0,), 4, 0, 1, ("met", (1,), ((0, 4),)))
(True, True)
>>> met_evidence(model, (0, 1, 1), 2, 0, 1)[0], accepts_met(model, (0,), 0, 0, 1, ("not", (0,), ((0, 5),), ((0, 0),)))
('not', False)
"""

CHANGING = """
>>> from surepast.changing import best_changed, best_with, changed_cost, overtakes, room, uses
>>> model = ((0, 0), ((0, 1), (1, 0)), ((0, 1), (1, 0)))
>>> best_with(model, (0, 0, 1), ("show", 0, 1), 1), best_with(model, (0, 0, 1), ("show", 0, 1), 0), best_with(model, (0, 0, 1), ("show", 0, 1), 2)
(((0, 0, 0), 1), ((0, 0, 1), 1), None)
>>> room(model, (0, 0, 1), ("show", 0, 1)), room(model, (0, 0, 1), ("change", 0, 1)), room(model, (0, 0, 1), ("begin", 0))
((None, 0), (0, None), (None, 1))
>>> best_changed(model, (0, 0, 1), ("begin", 0), 1), best_changed(model, (0, 0, 1), ("begin", 0), 2)
(((0, 0, 0), 2), ((1, 1, 1), 2))
>>> overtakes(model, (0, 0, 1), ("begin", 0), 2, (1, 1, 1)), overtakes(model, (0, 0, 1), ("begin", 0), 1, (1, 1, 1))
(True, False)
>>> uses(model, (0, 0, 1), ("change", 0, 0), (0, 0, 0)), changed_cost(model, (0, 0, 1), ("change", 0, 0), -3, (0, 0, 0))
(2, -5)
"""

# The interface tells the last call of these in words.
TEXTS = """
>>> from surepast.reading import next_tokens, read_model, read_row, read_signs
>>> from surepast.writing import model_text, row_text, signs_text
>>> model = read_model("0 2 | 0 1, 1 0 | 0 2, 2 0")
>>> model, read_signs(model, "0 1 1"), read_row(model, "")
(((0, 2), ((0, 1), (1, 0)), ((0, 2), (2, 0))), (0, 1, 1), ())
>>> model_text(((3,), ((0,),), ((1, 2, 3),))), signs_text(model, (1, 0)), row_text(model, ())
('3 | 0 | 1 2 3', '1 0', '')
>>> next_tokens("0 2", "model"), next_tokens("0 | 1", "model"), next_tokens("0 | 1 | 2", "model"), next_tokens("", "numbers")
(['a number', '"|"'], ['a number', '"|"', '","'], ['a number', '","', 'the end'], ['a number', 'the end'])
"""

WATCHING = """
>>> from surepast.journals import are_right, replayed
>>> from surepast.watcher import Watcher
>>> watcher = Watcher(((0, 1), ((0, 1), (1, 0)), ((0, 3), (3, 0))))
>>> watcher.act(("see", 0)), watcher.best(), watcher.sure(), watcher.act(("see", 1)), watcher.best(), watcher.sure(), watcher.first_sights()
(1, ((0,), 0), (0,), 2, ((0, 1), 1), (0, 1), (1, 2))
>>> are_right(((0, 1), ((0, 1), (1, 0)), ((0, 3), (3, 0))), watcher.records()), watcher.records()[0]
(True, (('see', 0), (0,), ((0, 0), (0, 1), (1, 0)), (0,)))
>>> watcher.act(("back",)), watcher.signs(), watcher.undo(), watcher.signs(), replayed(((1,), ((0,),), ((2, 0),)), (("see", 1),)).best()
(3, (0,), ('back',), (0, 1), ((0,), 1))
"""


README = pathlib.Path(__file__).resolve().parent.parent / "README.md"


class Examples(unittest.TestCase):
    def run_text(self, text, many):
        example = doctest.DocTestParser().get_doctest(text, {}, "interface", None, 0)
        told = []
        result = doctest.DocTestRunner(verbose=False).run(example, out=told.append)
        self.assertEqual((result.failed, result.attempted), (0, many), "".join(told))

    def test_made(self):
        self.run_text(MADE, 7)

    def test_best(self):
        self.run_text(BEST, 6)

    def test_futures(self):
        self.run_text(FUTURES, 5)

    def test_sure(self):
        self.run_text(SURE, 8)

    def test_delays(self):
        self.run_text(DELAYS, 6)

    def test_conditions(self):
        self.run_text(CONDITIONS, 6)

    def test_counting(self):
        self.run_text(COUNTING, 4)

    def test_near(self):
        self.run_text(NEAR, 9)

    def test_changing(self):
        self.run_text(CHANGING, 7)

    def test_texts(self):
        self.run_text(TEXTS, 6)
        with self.assertRaises(TextError) as caught:
            read_model("0 2 | 0 1 | 0, 1")
        self.assertEqual((caught.exception.column, caught.exception.words), (11, "a state is missing"))

    def test_watching(self):
        self.run_text(WATCHING, 6)

    def test_the_readme(self):
        blocks = README.read_text(encoding="ascii").split("```\n")[1::2]
        self.run_text("\n".join(blocks), 34)

    def test_point_18(self):
        begin = (0, 2)
        change = ((0, 1), (1, 0))
        show = ((0, 2), (2, 0))
        self.assertEqual(TOLD, (begin, change, show))
        self.assertIs(is_model(TOLD), True)
        self.assertEqual(cost_of(TOLD, (0, 1, 1), (0, 1, 1)), 1)
        self.assertEqual(steps(TOLD, (0, 1, 1), (0, 1, 1)), ((0, 0), (1, 0), (0, 0)))
        self.assertIs(is_better(TOLD, (0, 1, 1), (0, 1, 1), (0, 0, 1)), True)

    def test_point_29(self):
        self.assertEqual([cost_of(TURNS, (1, 0), row) for row in ((0, 0), (1, 1))], [1, 1])
        self.assertEqual(best_row(TURNS, (1, 0))[0], (0, 0))

    def test_point_40(self):
        begin = (0, 0)
        change = ((0, 1), (1, 0))
        show = ((0, 1), (1, 0))
        self.assertEqual(TURNS, (begin, change, show))
        self.assertEqual(profile(TURNS, (0,)), (0, 1))

    def test_point_52(self):
        self.assertEqual(sure_states(TURNS, (1,)), ())
        self.assertEqual(best_row(TURNS, (1, 0))[0][0], 0)
        self.assertEqual(sure_states(TURNS, (1, 1)), (1, 1))

    def test_point_63(self):
        self.assertIsNone(delay(TURNS))
        for many in range(21):
            self.assertEqual(sure_states(TURNS, ((1,) + (0, 1) * 10)[:many]), ())
        self.assertIs(accepts_delay(TURNS, ("never", (1,), (), (0, 1))), True)

    def test_point_73(self):
        (costs, order) = condition(TURNS, (1,))
        self.assertEqual(costs[0], costs[1] + 1)
        self.assertLess(order.index(0), order.index(1))

    def test_point_82(self):
        left = {(0, 0): 0, (1, 1): 0, (0, 1): 1, (1, 0): 2}
        self.assertEqual({signs: index_open(TURNS, signs)[0] for signs in left}, left)

    def test_point_92(self):
        rows = [nth_near(TOLD, (0, 1, 1), 3, index) for index in range(5)]
        self.assertEqual(rows, [(0, 1, 1), (0, 0, 1), (0, 0, 0), (0, 1, 0), (1, 1, 1)])
        self.assertEqual([cost_of(TOLD, (0, 1, 1), row) for row in rows], [1, 3, 4, 4, 4])
        self.assertEqual(count_near(TOLD, (0, 1, 1), 3), 5)

    def test_point_102(self):
        self.assertEqual(best_row(TURNS, (0, 0, 1)), ((0, 0, 0), 1))
        self.assertEqual([cost_of(TURNS, (0, 0, 1), row) for row in ((0, 0, 1), (1, 1, 1))], [1, 2])
        self.assertEqual(best_changed(TURNS, (0, 0, 1), ("show", 0, 1), 1)[0], (0, 0, 1))

    def test_point_113(self):
        self.assertEqual(read_model("0 2 | 0 1, 1 0 | 0 2, 2 0"), TOLD)
        self.assertEqual(model_text(TOLD), "0 2 | 0 1, 1 0 | 0 2, 2 0")

    def test_point_124(self):
        watcher = Watcher(TURNS)
        watcher.act(("see", 0))
        self.assertEqual(watcher.sure(), (0,))
        watcher.act(("back",))
        watcher.act(("see", 1))
        self.assertEqual(watcher.sure(), ())
        watcher.act(("see", 0))
        self.assertEqual(watcher.best()[0], (0, 0))
        watcher.undo()
        watcher.act(("see", 1))
        self.assertEqual(watcher.best()[0], (1, 1))


if __name__ == "__main__":
    unittest.main()
