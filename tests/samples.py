"""Models, wrong values and a plain reckoning that several tests use."""

from itertools import product
from random import Random

TOLD = ((0, 2), ((0, 1), (1, 0)), ((0, 2), (2, 0)))
TURNS = ((0, 0), ((0, 1), (1, 0)), ((0, 1), (1, 0)))
LATER = ((0, 0), ((0, 0), (1, 1)), ((1,), (0,)))
ALONE = ((2,), ((1,),), ((0, 3, 1),))
THREE = ((0, 1, 3), ((0, 1, 2), (3, 0, 1), (2, 2, 1)), ((0, 1, 3), (2, 3, 0), (1, 0, 2)))
FREE = ((0, 0, 0), ((0, 0, 0),) * 3, ((0, 0),) * 3)
DEAR = ((3, 3, 3), ((3, 3, 3),) * 3, ((3, 3),) * 3)
LEAST = ((0,), ((0,),), ((0,),))
# It has as many profiles as three states can have, and the first signs of one of them are sixteen.
SLOW = ((0, 0, 0), ((3, 3, 0), (0, 3, 3), (3, 0, 3)), ((1, 1), (0, 3), (0, 3)))

# Their delays are two to seven, and twelve.
DELAYED = [
    ((3, 3), ((0, 2), (2, 3)), ((1, 3), (3, 1))),
    ((1, 3), ((1, 3), (0, 0)), ((0, 2), (0, 2))),
    ((0, 1), ((1, 2), (3, 0)), ((2, 0), (0, 3))),
    ((3, 0, 1), ((1, 3, 2), (3, 0, 3), (0, 0, 0)), ((0, 2, 0), (3, 0, 0), (0, 3, 3))),
    ((3, 0, 0), ((1, 0, 3), (1, 3, 3), (3, 1, 1)), ((0, 3), (1, 1), (1, 0))),
    ((2, 1, 0), ((0, 0, 3), (3, 3, 1), (3, 0, 0)), ((2, 0), (0, 2), (1, 2))),
]
LATEST = ((2, 2, 3), ((2, 3, 3), (3, 1, 3), (3, 2, 0)), ((3, 3, 0), (0, 2, 2), (3, 0, 3)))
# Exactly 2000, 2001 and 3914 open marked conditions come in these; the first ones of each two have two signs.
FULL = [
    ((0, 1, 3), ((3, 0, 2), (3, 3, 0), (0, 2, 3)), ((2, 0), (2, 1), (2, 2))),
    ((0, 2, 2), ((2, 0, 3), (3, 3, 0), (0, 3, 3)), ((0, 0, 0), (0, 3, 2), (2, 1, 1))),
]
TOO_FULL = [
    ((1, 0, 0), ((3, 0, 3), (2, 3, 0), (0, 3, 3)), ((2, 3), (3, 1), (2, 1))),
    ((2, 1, 1), ((3, 3, 0), (1, 3, 2), (3, 1, 3)), ((1, 2, 0), (1, 3, 0), (3, 2, 3))),
    ((0, 3, 3), ((3, 3, 0), (0, 2, 3), (3, 0, 3)), ((0, 1, 3), (3, 1, 2), (0, 1, 0))),
]


def some_model(source):
    states, kinds = source.randint(1, 3), source.randint(1, 3)
    return (
        tuple(source.randint(0, 3) for _ in range(states)),
        tuple(tuple(source.randint(0, 3) for _ in range(states)) for _ in range(states)),
        tuple(tuple(source.randint(0, 3) for _ in range(kinds)) for _ in range(states)),
    )


def more_models():
    source = Random(18)
    return [some_model(source) for _ in range(25)]


MODELS = [TOLD, TURNS, LATER, ALONE, THREE, FREE, DEAR, LEAST] + more_models()

# Nothing here is a tuple, an integer or a part of a model.
STRANGE = [None, True, False, "", "0", "model", [], [0], {}, {0}, 1.0, b"\x00", object(), int, (None,), ((),)]


def all_signs(model, most):
    """All signs for the model, of at most so many."""
    for many in range(most + 1):
        yield from product(range(len(model[2][0])), repeat=many)


def all_rows(model, signs):
    return list(product(range(len(model[0])), repeat=len(signs)))


def plain_cost(model, signs, row):
    """Point 6, word by word."""
    begin, change, show = model
    total = 0
    for state in row[:1]:
        total += begin[state]
    for before, state in zip(row, row[1:]):
        total += change[before][state]
    for state, sign in zip(row, signs):
        total += show[state][sign]
    return total


def best_of(model, signs, rows):
    """The best one of the rows (point 7), by plain reckoning."""
    return min(rows, key=lambda row: (plain_cost(model, signs, row), row))


def long_signs(model, seed):
    """Twenty signs, and a few rows for them."""
    source = Random(seed)
    signs = tuple(source.randrange(len(model[2][0])) for _ in range(20))
    rows = [tuple(source.randrange(len(model[0])) for _ in range(20)) for _ in range(6)]
    return signs, rows + [(0,) * 20]


def flat_model(source):
    """A model whose change costs to each state are the same from wherever."""
    states, kinds = source.randint(1, 3), source.randint(1, 3)
    return (
        tuple(source.randint(0, 3) for _ in range(states)),
        (tuple(source.randint(0, 3) for _ in range(states)),) * states,
        tuple(tuple(source.randint(0, 3) for _ in range(kinds)) for _ in range(states)),
    )


def flat_models():
    source = Random(26)
    return [ALONE, FREE, DEAR, LEAST] + [flat_model(source) for _ in range(12)]


def small_model(source):
    """A model of costs of 0 and 1."""
    states, kinds = source.randint(1, 3), source.randint(1, 3)
    return (
        tuple(source.randint(0, 1) for _ in range(states)),
        tuple(tuple(source.randint(0, 1) for _ in range(states)) for _ in range(states)),
        tuple(tuple(source.randint(0, 1) for _ in range(kinds)) for _ in range(states)),
    )


def small_models():
    source = Random(60)
    return [TURNS, LATER, FREE, LEAST] + [small_model(source) for _ in range(30)]


def times(model, number):
    """The model with all costs multiplied by the number."""
    begin, change, show = model
    return (
        tuple(cost * number for cost in begin),
        tuple(tuple(cost * number for cost in costs) for costs in change),
        tuple(tuple(cost * number for cost in costs) for costs in show),
    )


def best_from_behind(model, signs, lasts):
    """The cost and the row of the best row that ends in one of these states, reckoned from the last sign back."""
    begin, change, show = model
    tails = [(0, (state,)) for state in lasts]
    for sign in reversed(signs[1:]):
        tails = [
            min((change[state][row[0]] + show[row[0]][sign] + cost, (state,) + row) for cost, row in tails)
            for state in range(len(begin))
        ]
    return min((begin[row[0]] + show[row[0]][signs[0]] + cost, row) for cost, row in tails)


def best_states(model, signs):
    """The best row for signs, however many."""
    return best_from_behind(model, signs, range(len(model[0])))[1] if signs else ()


def plain_to_go(model, state, further):
    """Point 30, word by word: the least cost of all rows of further states behind the state."""
    return min(cost_behind(model, state, further, row) for row in all_rows(model, further))


def cost_behind(model, state, further, row):
    """The cost of further states for the further signs, coming from the state."""
    total = 0
    for before, later, sign in zip((state,) + row, row, further):
        total += model[1][before][later] + model[2][later][sign]
    return total


def plain_profile(model, further):
    """Point 30, word by word."""
    costs = [plain_to_go(model, state, further) for state in range(len(model[0]))]
    return tuple(cost - min(costs) for cost in costs)


def plain_ahead(model, sign, numbers):
    """Point 31, word by word."""
    states = range(len(model[0]))
    rest = [model[2][later][sign] + numbers[later] for later in states]
    found = [min(model[1][state][later] + rest[later] for later in states) for state in states]
    return tuple(number - min(found) for number in found)


def closure(model, members):
    """The members, the tuple of noughts, and all that come of these with signs ahead, ascending."""
    found = set()
    left = [(0,) * len(model[0]), *members]
    while left:
        numbers = left.pop()
        if numbers not in found:
            found.add(numbers)
            left += [plain_ahead(model, sign, numbers) for sign in range(len(model[2][0]))]
    return tuple(sorted(found))


def greater_tables(model, seed):
    """Some closed tables of the model, most of them with more members than the least one."""
    source = Random(seed)
    tables = []
    for many in (1, 1, 2, 5):
        members = [tuple(source.randint(0, 9) for _ in model[0]) for _ in range(many)]
        tables.append(closure(model, members))
    return tables
