"""Models, wrong values and a plain reckoning that several tests use."""

from itertools import product
from random import Random

TOLD = ((0, 2), ((0, 1), (1, 0)), ((0, 2), (2, 0)))
TURNS = ((0, 0), ((0, 1), (1, 0)), ((0, 1), (1, 0)))
LATER = ((0, 0), ((0, 0), (1, 1)), ((1,), (0,)))
ALONE = ((2,), ((1,),), ((0, 3, 1),))
THREE = ((0, 1, 3), ((0, 1, 2), (3, 0, 1), (2, 2, 1)), ((0, 1, 3), (2, 3, 0), (1, 0, 2)))
FREE = ((0, 0, 0), ((0, 0, 0),) * 3, ((0, 0),) * 3)
DEAR = ((3, 3, 3), ((3, 3, 3),) * 3, ((3, 3),) * 3)
LEAST = ((0,), ((0,),), ((0,),))


def some_model(source):
    states, kinds = source.randint(1, 3), source.randint(1, 3)
    return (
        tuple(source.randint(0, 3) for _ in range(states)),
        tuple(tuple(source.randint(0, 3) for _ in range(states)) for _ in range(states)),
        tuple(tuple(source.randint(0, 3) for _ in range(kinds)) for _ in range(states)),
    )


def more_models():
    source = Random(18)
    return [some_model(source) for _ in range(25)]


MODELS = [TOLD, TURNS, LATER, ALONE, THREE, FREE, DEAR, LEAST] + more_models()

# Nothing here is a tuple, an integer or a part of a model.
STRANGE = [None, True, False, "", "0", "model", [], [0], {}, {0}, 1.0, b"\x00", object(), int, (None,), ((),)]


def all_signs(model, most):
    """All signs for the model, of at most so many."""
    for many in range(most + 1):
        yield from product(range(len(model[2][0])), repeat=many)


def all_rows(model, signs):
    return list(product(range(len(model[0])), repeat=len(signs)))


def plain_cost(model, signs, row):
    """Point 6, word by word."""
    begin, change, show = model
    total = 0
    for state in row[:1]:
        total += begin[state]
    for before, state in zip(row, row[1:]):
        total += change[before][state]
    for state, sign in zip(row, signs):
        total += show[state][sign]
    return total


def best_of(model, signs, rows):
    """The best one of the rows (point 7), by plain reckoning."""
    return min(rows, key=lambda row: (plain_cost(model, signs, row), row))


def long_signs(model, seed):
    """Twenty signs, and a few rows for them."""
    source = Random(seed)
    signs = tuple(source.randrange(len(model[2][0])) for _ in range(20))
    rows = [tuple(source.randrange(len(model[0])) for _ in range(20)) for _ in range(6)]
    return signs, rows + [(0,) * 20]
