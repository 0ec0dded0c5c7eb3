"""Point 2: the same calls return the same, and arguments stay as they are."""

import copy
import unittest

from surepast.errors import PastError
from surepast.made import raised, renamed, without
from surepast.models import cost_of, is_better, is_model, is_signs, steps
from tests.samples import ALONE, DEAR, THREE, TOLD

CALLS = [
    (is_model, (TOLD,)), (is_model, ([[0], [[0]], [[0]]],)), (is_model, (([0], [[0]], [[0]]),)), (is_model, ({"a": [1]},)),
    (is_model, (((0, 2), [[1, 0], [0, 1]], [[0], [1]]),)),
    (is_signs, ((0, 1), TOLD)), (is_signs, ([1, 0], TOLD)), (is_signs, (([1], 0), TOLD)),
    (cost_of, (TOLD, (0, 1, 1), (0, 1, 0))), (cost_of, ([1], [2], [3])), (cost_of, (TOLD, (1,), [1])),
    (cost_of, (TOLD, [1, 0], (1, 0))),
    (steps, (THREE, (2, 1, 0), (2, 1, 0))), (steps, (THREE, (2, 1, 0), [2, 1, 0])),
    (is_better, (THREE, (2, 1), (2, 1), (1, 0))), (is_better, (THREE, (2, 1), (2, 1), [2, 0])),
    (raised, (TOLD, "change", 2)), (raised, (DEAR, "show", 1)), (raised, (TOLD, ["show"], 1)), (raised, (TOLD, "show", [1])),
    (renamed, (THREE, (2, 0, 1))), (renamed, (THREE, [2, 0, 1])), (renamed, ([], [2, 0, 1])),
    (without, (THREE, 1)), (without, (ALONE, 0)), (without, (THREE, [1])),
]


def outcome(call, arguments):
    """What the call returns, or what it raises."""
    try:
        return "returns", call(*arguments)
    except PastError as error:
        return error.__class__, vars(error)


class TheSame(unittest.TestCase):
    def test_arguments_stay_as_they_are(self):
        for call, arguments in CALLS:
            kept = copy.deepcopy(arguments)
            outcome(call, arguments)
            self.assertEqual(repr(arguments), repr(kept))

    def test_again_and_with_equal_arguments(self):
        first = [outcome(call, arguments) for call, arguments in CALLS]
        again = [outcome(call, arguments) for call, arguments in CALLS]
        backwards = [outcome(call, copy.deepcopy(arguments)) for call, arguments in reversed(CALLS)]
        self.assertEqual(again, first)
        self.assertEqual(backwards[::-1], first)


if __name__ == "__main__":
    unittest.main()
