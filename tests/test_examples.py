"""The interface's examples as they stand, and point 18."""

import doctest
import unittest

from surepast.models import cost_of, is_better, is_model, steps
from tests.samples import TOLD

MADE = """
>>> from surepast.made import raised, renamed, without
>>> from surepast.models import cost_of, is_better, is_signs, steps
>>> model = ((0, 2), ((0, 1), (1, 0)), ((0, 2), (2, 0)))
>>> cost_of(model, (0, 1, 1), (0, 1, 1)), steps(model, (0, 1, 1), (0, 1, 0)), is_signs((0, 2), model)
(1, ((0, 0), (1, 0), (1, 2)), False)
>>> is_better(model, (0,), (0,), (1,)), is_better(model, (1,), (1,), (0,))
(True, False)
>>> raised(model, "change", 1), renamed(model, (1, 0))
(((0, 2), ((1, 2), (2, 1)), ((0, 2), (2, 0))), ((2, 0), ((0, 1), (1, 0)), ((2, 0), (0, 2))))
>>> without(model, 0)
((2,), ((0,),), ((2, 0),))
"""


class Examples(unittest.TestCase):
    def run_text(self, text, many):
        example = doctest.DocTestParser().get_doctest(text, {}, "interface", None, 0)
        told = []
        result = doctest.DocTestRunner(verbose=False).run(example, out=told.append)
        self.assertEqual((result.failed, result.attempted), (0, many), "".join(told))

    def test_made(self):
        self.run_text(MADE, 7)

    def test_point_18(self):
        begin = (0, 2)
        change = ((0, 1), (1, 0))
        show = ((0, 2), (2, 0))
        self.assertEqual(TOLD, (begin, change, show))
        self.assertIs(is_model(TOLD), True)
        self.assertEqual(cost_of(TOLD, (0, 1, 1), (0, 1, 1)), 1)
        self.assertEqual(steps(TOLD, (0, 1, 1), (0, 1, 1)), ((0, 0), (1, 0), (0, 0)))
        self.assertIs(is_better(TOLD, (0, 1, 1), (0, 1, 1), (0, 0, 1)), True)


if __name__ == "__main__":
    unittest.main()
