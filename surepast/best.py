"""The best rows for signs, and the evidence that a row is the best one."""

from surepast.errors import BadValue
from surepast.models import (
    check_row, check_signs, coming, is_state, is_tuple, is_whole, steps_of, sum_of_steps,
)


def ending_behind(model, ends, sign, state):
    """Return the cost and the row of the state's ending row with the sign behind those of the ending rows."""
    change, show = model[1], model[2]
    cost, row = min([(spent + change[before][state], earlier) for before, (spent, earlier) in enumerate(ends)])
    return (cost + show[state][sign], row + (state,))


def ending_rows(model, signs):
    """Return the cost and the row of each state's ending row, for at least one sign, however many."""
    begin, show = model[0], model[2]
    states = range(len(begin))
    ends = [(begin[state] + show[state][signs[0]], (state,)) for state in states]
    for sign in signs[1:]:
        ends = [ending_behind(model, ends, sign, state) for state in states]
    return ends


def best_of_all(model, signs):
    """Return the best row and its cost, for signs that were checked, however many."""
    if not signs:
        return ((), 0)
    cost, row = min(ending_rows(model, signs))
    return (row, cost)


def to_go(model, sign, numbers):
    """Return for each state the least sum of what the next state, which shows the sign, costs and its number."""
    change, show = model[1], model[2]
    rest = [show[later][sign] + number for later, number in enumerate(numbers)]
    return tuple([min([cost + more for cost, more in zip(costs, rest)]) for costs in change])


def floors_of(model, signs):
    """Return what `told_floors` does, for arguments that were checked."""
    numbers = (0,) * len(model[0])
    floors = []
    for sign in reversed(signs):
        floors.append(numbers)
        numbers = to_go(model, sign, numbers)
    return tuple(reversed(floors))


def are_floors(value, model, signs):
    """Tell whether the value has the form of floors for the signs."""
    if not is_tuple(value, len(signs), len(signs)):
        return False
    states = len(model[0])
    return all([is_tuple(floor, states, states) and all([is_whole(number) for number in floor]) for floor in value])


def are_right_floors(model, signs, floors):
    """Tell whether the floors are right."""
    bounds = (0,) * len(model[0])
    for sign, floor in reversed(list(zip(signs, floors))):
        if any([number > bound for number, bound in zip(floor, bounds)]):
            return False
        bounds = to_go(model, sign, floor)
    return True


def no_turn_wins(model, signs, row, floors):
    """Tell whether no turn from the row, by these floors, can lead to a better row."""
    show = model[2]
    cost = sum_of_steps(model, signs, row)
    spent = 0
    for time, (come, shown) in enumerate(steps_of(model, signs, row)):
        for state, number in enumerate(floors[time]):
            turn = spent + coming(model, row, time, state) + show[state][signs[time]] + number
            if turn < cost or (turn == cost and state < row[time]):
                return False
        spent += come + shown
    return True


def best_row(model, signs):
    """Return the best row for the signs, and its cost."""
    check_signs(model, signs)
    return best_of_all(model, signs)


def ending_row(model, signs, state):
    """Return the best one of the rows that end in the state, and its cost."""
    check_signs(model, signs)
    if not signs:
        raise BadValue("signs")
    if not is_state(state, model):
        raise BadValue("state")
    cost, row = ending_rows(model, signs)[state]
    return (row, cost)


def told_floors(model, signs):
    """Return the costs to go of each state, behind each of the signs."""
    check_signs(model, signs)
    return floors_of(model, signs)


def accepts_best(model, signs, row, value):
    """Tell whether the value is evidence that the row is the best one for the signs."""
    check_row(model, signs, row)
    if not are_floors(value, model, signs) or not are_right_floors(model, signs, value):
        return False
    return no_turn_wins(model, signs, row, value)
