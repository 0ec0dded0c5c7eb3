"""All rows for signs in the order of point 7, and for twenty signs what is told of them without listing them."""

from collections import Counter
from functools import lru_cache

from tests.samples import all_rows, plain_cost


@lru_cache(maxsize=None)
def ranked(model, signs):
    """The costs and rows of all rows, a better one before one that is not."""
    return sorted((plain_cost(model, signs, row), row) for row in all_rows(model, signs))


def near_rows(model, signs, margin):
    """Point 83, word by word."""
    least = ranked(model, signs)[0][0]
    return [row for cost, row in ranked(model, signs) if cost <= least + margin]


def step(model, signs, time, before, state):
    """What a row costs more with the state at this time behind the one before it."""
    return (model[1][before][state] if time else model[0][state]) + model[2][state][signs[time]]


def numbers_with(model, signs, row=()):
    """How many rows that begin with this one cost how much, counted from the front."""
    found = Counter({(row[-1] if row else None, plain_cost(model, signs, row)): 1})
    for time in range(len(row), len(signs)):
        later = Counter()
        for (before, cost), many in found.items():
            for state in range(len(model[0])):
                later[state, cost + step(model, signs, time, before, state)] += many
        found = later
    numbers = Counter()
    for (_, cost), many in found.items():
        numbers[cost] += many
    return numbers


def number_up_to(model, signs, margin):
    """How many rows are near within the margin."""
    numbers = numbers_with(model, signs)
    return sum(many for cost, many in numbers.items() if cost <= min(numbers) + margin)


def number_better(model, signs, row):
    """How many rows are better than this one."""
    cost = plain_cost(model, signs, row)
    number = sum(many for other, many in numbers_with(model, signs).items() if other < cost)
    for time, state in enumerate(row):
        number += sum(numbers_with(model, signs, row[:time] + (lesser,))[cost] for lesser in range(state))
    return number


def two_best(model, signs):
    """The best row and the second best one, of two states or more."""
    found = [[(0, ())]]
    for time in range(len(signs)):
        found = [
            sorted(
                (cost + step(model, signs, time, row[-1] if row else None, state), row + (state,))
                for rows in found for cost, row in rows
            )[:2]
            for state in range(len(model[0]))
        ]
    return [row for _, row in sorted(both for rows in found for both in rows)[:2]]


def least_with(model, signs, time, state):
    """The least cost of a row that has the state at the time."""
    found = {None: 0}
    for at in range(len(signs)):
        states = [state] if at == time else range(len(model[0]))
        found = {
            later: min(cost + step(model, signs, at, before, later) for before, cost in found.items()) for later in states
        }
    return min(found.values())
