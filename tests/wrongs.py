"""Wrong values for each kind of argument, and what each function does with them."""

from itertools import product

from surepast.errors import BadValue, PastError
from tests.samples import STRANGE, TOLD

MODELS = STRANGE + [
    0, (), TOLD[:2], TOLD + (0,), list(TOLD), (list(TOLD[0]), TOLD[1], TOLD[2]), ((0, 4), TOLD[1], TOLD[2]),
    ((0, -1), TOLD[1], TOLD[2]), ((0, True), TOLD[1], TOLD[2]), ((), (), ()), ((0,) * 4, ((0,) * 4,) * 4, ((0,),) * 4),
    (TOLD[0], TOLD[1], ((), ())), (TOLD[0], TOLD[1], ((0,) * 4,) * 2), (TOLD[0], TOLD[1], ((0, 1), (0,))),
    (TOLD[0], [*TOLD[1]], TOLD[2]), (TOLD[0], ((0, 1), [1, 0]), TOLD[2]), (TOLD[0], TOLD[1], ("01", (1, 0))),
]
SIGNS = STRANGE + [0, 2, "01", [0, 1], (2,), (-1,), (True,), (0, False), (0, None), ((0,),), (0,) * 21, (0, 1.0)]
# Right signs beside these are 0, 1 and the model has two states.
ROWS = STRANGE + [
    0, (), (0,), (1,), (0, 0, 0), "01", [0, 1], (0, 2), (2, 0), (-1, 0), (0, -1), (True, False), (0, True), (False, 0),
    (0, None), (0, "1"), ((0,), (1,)), (0, 1.0), (0, 1, 0, 1), (0,) * 20,
]
# The model has two states and two signs.
STATES = STRANGE + [-1, 2, 3, 100, "0", (0,), 0.0, -(10 ** 30)]

MODEL = ("model", TOLD, MODELS)
# Every value is valid where it is judged: these have the forms of evidence of any kind, or nearly.
JUDGED = STRANGE + [
    0, 1, -1, (), (0, 0), ((0, 0),), ((0, 0), (0, 1), (1, 0)), ((0, 1), (0, 0)), ((0,), ()), ((), ()), (0, 1), [(0, 0)], "00",
    ((0, True), (0, 0)), ((0, 0), None), (None, (0, 0)), ((0, 0), "00"), ((0, 0), [0, 1]), {0: (0, 0)}, ((0, 10 ** 30),),
    (((0, 0), (0, 1)),), ("within", 0, (), ()), ("never", (0,), (), (0,)), ("within",), ("never", None, None, None),
    ("within", 10 ** 30, None, []), ("within", None, ((),), ((),)), (["within"], 0, (), ()), (None, 0, 0, 0),
    ("within", 1, ((((1, 0), (0, 1)),),), 5), ("within", 1, ((0, 0),), (((0, 0), 1),)), ("never", "0", "", "0"),
]


class WrongArguments:
    """Tests for the functions in `calls`.

    Each has its parameters: of each the name, a right value, and wrong ones; or, if the name is "value",
    any ones, which are judged.
    """

    calls = []

    def name_of_error(self, call, arguments):
        with self.assertRaises(PastError) as caught:
            call(*arguments)
        self.assertIs(type(caught.exception), BadValue, arguments)
        return caught.exception.name

    def places(self):
        """Each function with each of its parameters that can be wrong, and the place of this one."""
        for call, parameters in self.calls:
            for at, (name, _, wrongs) in enumerate(parameters):
                if name != "value":
                    yield call, parameters, at, name, wrongs

    def test_each_argument_alone(self):
        for call, parameters, at, name, wrongs in self.places():
            for wrong in wrongs:
                arguments = [right for _, right, _ in parameters]
                arguments[at] = wrong
                self.assertEqual(self.name_of_error(call, arguments), name, arguments)

    def test_the_first_wrong_one_whatever_stands_behind_it(self):
        for call, parameters, at, name, wrongs in self.places():
            before = [right for _, right, _ in parameters[:at]]
            behind = [[right] + others[:2] + others[-3:] for _, right, others in parameters[at + 1:]]
            for wrong in wrongs:
                for rest in product(*behind):
                    arguments = (*before, wrong, *rest)
                    self.assertEqual(self.name_of_error(call, arguments), name, arguments)

    def test_the_right_ones_raise_nothing(self):
        for call, parameters in self.calls:
            call(*[right for _, right, _ in parameters])

    def test_every_value_is_valid_where_it_is_judged(self):
        for call, parameters in self.calls:
            if parameters[-1][0] == "value":
                arguments = [right for _, right, _ in parameters[:-1]]
                for value in parameters[-1][2]:
                    self.assertIn(repr(call(*arguments, value)), ("True", "False"), value)
