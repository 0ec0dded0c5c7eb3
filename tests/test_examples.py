"""The interface's examples as they stand, and points 18, 29, 40, 52, 63, 73 and 82."""

import doctest
import unittest

from surepast.best import best_row
from surepast.conditions import condition
from surepast.counting import index_open
from surepast.delays import accepts_delay, delay
from surepast.futures import profile
from surepast.models import cost_of, is_better, is_model, steps
from surepast.sure import sure_states
from tests.samples import TOLD, TURNS

MADE = """
>>> from surepast.made import raised, renamed, without
>>> from surepast.models import cost_of, is_better, is_signs, steps
>>> model = ((0, 2), ((0, 1), (1, 0)), ((0, 2), (2, 0)))
>>> cost_of(model, (0, 1, 1), (0, 1, 1)), steps(model, (0, 1, 1), (0, 1, 0)), is_signs((0, 2), model)
(1, ((0, 0), (1, 0), (1, 2)), False)
>>> is_better(model, (0,), (0,), (1,)), is_better(model, (1,), (1,), (0,))
(True, False)
>>> raised(model, "change", 1), renamed(model, (1, 0))
(((0, 2), ((1, 2), (2, 1)), ((0, 2), (2, 0))), ((2, 0), ((0, 1), (1, 0)), ((2, 0), (0, 2))))
>>> without(model, 0)
((2,), ((0,),), ((2, 0),))
"""


BEST = """
>>> from surepast.best import accepts_best, best_row, ending_row, told_floors
>>> model = ((0, 0), ((0, 1), (1, 0)), ((0, 1), (1, 0)))
>>> best_row(model, (1, 0)), best_row(model, (1,)), best_row(model, ())
(((0, 0), 1), ((1,), 0), ((), 0))
>>> ending_row(model, (1, 0), 1), told_floors(model, (1, 0))
(((1, 1), 1), ((0, 1), (0, 0)))
>>> accepts_best(model, (1, 0), (0, 0), ((0, 1), (0, 0))), accepts_best(model, (1, 0), (1, 1), ((0, 1), (0, 0)))
(True, False)
>>> accepts_best(model, (1, 1), (1, 1), ((0, 0), (0, 0))), accepts_best(model, (1, 1), (1, 1), ((1, 0), (0, -1)))
(True, False)
"""

FUTURES = """
>>> from surepast.futures import first_signs, is_closed, profile, profiles, spread, with_ahead
>>> model = ((0, 0), ((0, 1), (1, 0)), ((0, 1), (1, 0)))
>>> profile(model, ()), profile(model, (0,)), profile(model, (0, 1)), with_ahead(model, 1, (0, 1))
((0, 0), (0, 1), (0, 0), (0, 0))
>>> profiles(model), first_signs(model), spread(model)
(((0, 0), (0, 1), (1, 0)), [((0, 0), ()), ((0, 1), (0,)), ((1, 0), (1,))], 1)
>>> is_closed(model, profiles(model)), is_closed(model, ((0, 0), (0, 1))), is_closed(model, ((0, 0), (0, 1), (0, 5), (1, 0)))
(True, False, True)
"""

SURE = """
>>> from surepast.waiting import accepts_open, open_time, told_signs
>>> from surepast.sure import accepts_sure, decided_by, sure_states, survivors
>>> model = ((0, 0), ((0, 1), (1, 0)), ((0, 1), (1, 0)))
>>> sure_states(model, (1,)), survivors(model, (1,)), sure_states(model, (1, 1)), survivors(model, (1, 1))
((), [(0, (0,)), (1, ())], (1, 1), [(1, ())])
>>> open_time(model, (1,)), told_signs(model, (1,)), open_time(model, (1, 1)), told_signs(model, (1, 1))
(0, ((0,), ()), None, None)
>>> accepts_open(model, (1,), 0, ((0,), ())), accepts_open(model, (1,), 0, ((1,), ()))
(True, False)
>>> decided_by(model, (1, 1), ((0, 0), (0, 1), (0, 3), (1, 0))), accepts_sure(model, (1, 1), 2, ((0, 0), (0, 1), (1, 0)))
((), True)
>>> accepts_sure(model, (1, 1), 1, ((0, 0), (0, 1), (0, 3), (1, 0))), accepts_sure(model, (1, 1), 2, ((0, 0), (0, 1)))
(False, False)
"""

DELAYS = """
>>> from surepast.delays import accepts_delay, delay, delay_evidence, undecided
>>> turns = ((0, 0), ((0, 1), (1, 0)), ((0, 1), (1, 0)))
>>> later = ((0, 0), ((0, 0), (1, 1)), ((1,), (0,)))
>>> delay(turns), delay(later), undecided(later, 0), undecided(later, 1), undecided(turns, 3)
(None, 1, ((0,), ()), None, ((1,), (0, 1, 0)))
>>> delay_evidence(later)
('within', 1, (((1, 0), (0, 1)),), ((((1, 0), (0, 1), (0, 1)), 1),))
>>> accepts_delay(turns, ("never", (1,), (), (0, 1))), accepts_delay(turns, ("never", (1,), (0,), (0, 1))), accepts_delay(later, ("never", (0,), (), (0,)))
(True, False, False)
"""

CONDITIONS = """
>>> from surepast.conditions import all_conditions, can_win, condition, is_closed_set, origins, with_sign
>>> turns = ((0, 0), ((0, 1), (1, 0)), ((0, 1), (1, 0)))
>>> condition(turns, (1,)), origins(turns, ((1, 0), (0, 1)), 0), with_sign(turns, ((1, 0), (0, 1)), 0)
(((1, 0), (0, 1)), (0, 1), ((0, 0), (0, 1)))
>>> can_win(turns, ((1, 0), (0, 1))), can_win(turns, ((0, 1), (0, 1))), can_win(turns, ((0, 0), (0, 1)))
((0, 1), (0,), (0, 1))
>>> later = ((0, 0), ((0, 0), (1, 1)), ((1,), (0,)))
>>> all_conditions(later), is_closed_set(later, (((1, 0), (0, 1)),)), is_closed_set(turns, (((1, 0), (0, 1)),))
([(((1, 0), (0, 1)), (0,))], True, False)
"""

COUNTING = """
>>> from surepast.counting import count_open, index_open, nth_open, worst_signs
>>> turns = ((0, 0), ((0, 1), (1, 0)), ((0, 1), (1, 0)))
>>> count_open(turns, 0), count_open(turns, 1), count_open(turns, 2)
((1,), (1, 1), (2, 1, 1))
>>> nth_open(turns, 2, 0, 1), index_open(turns, (1, 0)), worst_signs(turns, 2), index_open(turns, (1, 1))
((1, 1), (2, 0), (1, 0), (0, 1))
"""


class Examples(unittest.TestCase):
    def run_text(self, text, many):
        example = doctest.DocTestParser().get_doctest(text, {}, "interface", None, 0)
        told = []
        result = doctest.DocTestRunner(verbose=False).run(example, out=told.append)
        self.assertEqual((result.failed, result.attempted), (0, many), "".join(told))

    def test_made(self):
        self.run_text(MADE, 7)

    def test_best(self):
        self.run_text(BEST, 6)

    def test_futures(self):
        self.run_text(FUTURES, 5)

    def test_sure(self):
        self.run_text(SURE, 8)

    def test_delays(self):
        self.run_text(DELAYS, 6)

    def test_conditions(self):
        self.run_text(CONDITIONS, 6)

    def test_counting(self):
        self.run_text(COUNTING, 4)

    def test_point_18(self):
        begin = (0, 2)
        change = ((0, 1), (1, 0))
        show = ((0, 2), (2, 0))
        self.assertEqual(TOLD, (begin, change, show))
        self.assertIs(is_model(TOLD), True)
        self.assertEqual(cost_of(TOLD, (0, 1, 1), (0, 1, 1)), 1)
        self.assertEqual(steps(TOLD, (0, 1, 1), (0, 1, 1)), ((0, 0), (1, 0), (0, 0)))
        self.assertIs(is_better(TOLD, (0, 1, 1), (0, 1, 1), (0, 0, 1)), True)

    def test_point_29(self):
        self.assertEqual([cost_of(TURNS, (1, 0), row) for row in ((0, 0), (1, 1))], [1, 1])
        self.assertEqual(best_row(TURNS, (1, 0))[0], (0, 0))

    def test_point_40(self):
        begin = (0, 0)
        change = ((0, 1), (1, 0))
        show = ((0, 1), (1, 0))
        self.assertEqual(TURNS, (begin, change, show))
        self.assertEqual(profile(TURNS, (0,)), (0, 1))

    def test_point_52(self):
        self.assertEqual(sure_states(TURNS, (1,)), ())
        self.assertEqual(best_row(TURNS, (1, 0))[0][0], 0)
        self.assertEqual(sure_states(TURNS, (1, 1)), (1, 1))

    def test_point_63(self):
        self.assertIsNone(delay(TURNS))
        for many in range(21):
            self.assertEqual(sure_states(TURNS, ((1,) + (0, 1) * 10)[:many]), ())
        self.assertIs(accepts_delay(TURNS, ("never", (1,), (), (0, 1))), True)

    def test_point_73(self):
        (costs, order) = condition(TURNS, (1,))
        self.assertEqual(costs[0], costs[1] + 1)
        self.assertLess(order.index(0), order.index(1))

    def test_point_82(self):
        left = {(0, 0): 0, (1, 1): 0, (0, 1): 1, (1, 0): 2}
        self.assertEqual({signs: index_open(TURNS, signs)[0] for signs in left}, left)


if __name__ == "__main__":
    unittest.main()
