"""Rows near the best one, counted by their costs without being listed."""

from surepast.errors import BadValue
from surepast.models import check_signs, coming, is_number, is_row, steps_of, sum_of_steps

MOST_MARGIN = 30


def added_up(parts):
    """Return a dict from each cost to how many ways of all parts cost so much.

    Each part is a pair of a cost that all of its ways have more, and such a dict of them.
    """
    numbers = {}
    for more, part in parts:
        for cost, many in part.items():
            numbers[cost + more] = numbers.get(cost + more, 0) + many
    return numbers


def ways_from(model, sign, state, later):
    """Return how many ways from the state on, which shows the sign, cost how much.

    `later` is a list of these for the next time, or None at the last one.
    """
    shown = model[2][state][sign]
    if later is None:
        return {shown: 1}
    return added_up([(cost + shown, ways) for cost, ways in zip(model[1][state], later)])


def ways_of(model, signs):
    """Return for each time a list with a dict for each state: how many ways from it on cost how much.

    The cost with which this first state of the ways is come to is not in it.
    """
    layers = []
    later = None
    for sign in reversed(signs):
        later = [ways_from(model, sign, state, later) for state in range(len(model[0]))]
        layers.append(later)
    return list(reversed(layers))


def numbers_of_rows(model, ways):
    """Return a dict from each cost to how many rows cost so much."""
    return added_up(list(zip(model[0], ways[0]))) if ways else {0: 1}


def choices(model, ways, row, left):
    """Return for each state how many ways go on with it behind the row, and cost just what is left."""
    time = len(row)
    return [part.get(left - coming(model, row, time, state), 0) for state, part in enumerate(ways[time])]


def row_of_cost(model, signs, ways, cost, index):
    """Return the row with the index among those that cost just this much."""
    row = ()
    left, skip = cost, index
    for sign in signs:
        state = 0
        for many in choices(model, ways, row, left):
            if skip < many:
                break
            skip -= many
            state += 1
        left -= coming(model, row, len(row), state) + model[2][state][sign]
        row = row + (state,)
    return row


def row_at(model, signs, index):
    """Return the row with the index among all rows, a better one before one that is not; None if there are too few."""
    ways = ways_of(model, signs)
    skip = index
    for cost, many in sorted(numbers_of_rows(model, ways).items()):
        if skip < many:
            return row_of_cost(model, signs, ways, cost, skip)
        skip -= many
    return None


def index_of_row(model, signs, row):
    """Return the index of the row among all rows, a better one before one that is not."""
    ways = ways_of(model, signs)
    left = sum_of_steps(model, signs, row)
    index = sum([many for cost, many in numbers_of_rows(model, ways).items() if cost < left])
    for time, (come, shown) in enumerate(steps_of(model, signs, row)):
        index += sum(choices(model, ways, row[:time], left)[:row[time]])
        left -= come + shown
    return index


def number_near(model, signs, margin):
    """Return what `count_near` does, for arguments that were checked."""
    numbers = numbers_of_rows(model, ways_of(model, signs))
    most = min(numbers) + margin
    return sum([many for cost, many in numbers.items() if cost <= most])


def check_margin(model, signs, margin):
    """Raise BadValue if these are not a model, signs for it and a margin."""
    check_signs(model, signs)
    if not is_number(margin, 0, MOST_MARGIN):
        raise BadValue("margin")


def count_near(model, signs, margin):
    """Return the number of the rows that cost at most as much as the best one and the margin together."""
    check_margin(model, signs, margin)
    return number_near(model, signs, margin)


def nth_near(model, signs, margin, index):
    """Return the near row with the index."""
    check_margin(model, signs, margin)
    if not is_number(index, 0, number_near(model, signs, margin) - 1):
        raise BadValue("index")
    return row_at(model, signs, index)


def index_of_near(model, signs, margin, row):
    """Return the index of the row, or None if it is not near."""
    check_margin(model, signs, margin)
    if not is_row(row, model, signs):
        raise BadValue("row")
    index = index_of_row(model, signs, row)
    # The near rows are the first ones of all.
    return index if index < number_near(model, signs, margin) else None


def second_best(model, signs):
    """Return the row that is better than all others but the best one, or None if there is no other one."""
    check_signs(model, signs)
    return row_at(model, signs, 1)
