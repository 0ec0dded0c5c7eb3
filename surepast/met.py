"""Which states the near rows have at which times, and the evidence for it."""

from surepast.best import are_floors, are_right_floors, best_of_all, ending_rows, floors_of
from surepast.errors import BadValue
from surepast.models import is_number, is_row, is_state, sum_of_steps
from surepast.near import check_margin


def ahead_bounds(model, signs, ahead, time):
    """Return the greatest right ahead numbers for the time, behind those for the time before it."""
    begin, change, show = model
    least = begin
    if time > 0:
        before = list(zip(ahead[time - 1], change))
        least = [min([number + costs[state] for number, costs in before]) for state in range(len(begin))]
    return tuple([number + show[state][signs[time]] for state, number in enumerate(least)])


def ahead_of_all(model, signs):
    """Return the greatest right ahead numbers: for each time the costs of the states' ending rows."""
    ahead = []
    for time in range(len(signs)):
        ahead.append(ahead_bounds(model, signs, ahead, time))
    return tuple(ahead)


def are_right_ahead(model, signs, ahead):
    """Tell whether the ahead numbers are right."""
    for time, numbers in enumerate(ahead):
        bounds = ahead_bounds(model, signs, ahead, time)
        if any([number > bound for number, bound in zip(numbers, bounds)]):
            return False
    return True


def least_through(model, signs):
    """Return for each time a tuple with the least cost of a row with the state there, for each state."""
    # Right behind numbers are right floors, and the greatest ones are the costs to go.
    both = list(zip(ahead_of_all(model, signs), floors_of(model, signs)))
    return [tuple([cost + rest for cost, rest in zip(ahead, behind)]) for ahead, behind in both]


def met_of(model, signs, margin):
    """Return what `met` does, for arguments that were checked."""
    most = best_of_all(model, signs)[1] + margin
    return tuple([
        tuple([state for state, cost in enumerate(costs) if cost <= most]) for costs in least_through(model, signs)
    ])


def best_through(model, signs, time, state):
    """Return a row with the state at the time that costs no more than any other such row."""
    row = ending_rows(model, signs[:time + 1])[state][1]
    behind = floors_of(model, signs)
    for later in range(time + 1, len(signs)):
        costs, sign = model[1][row[-1]], signs[later]
        rests = [(costs[other] + model[2][other][sign] + rest, other) for other, rest in enumerate(behind[later])]
        row = row + (min(rests)[1],)
    return row


def check_place(model, signs, margin, time, state):
    """Raise BadValue if these are not a model, signs for it, a margin, a time of the signs and a state."""
    check_margin(model, signs, margin)
    if not is_number(time, 0, len(signs) - 1):
        raise BadValue("time")
    if not is_state(state, model):
        raise BadValue("state")


def met(model, signs, margin):
    """Return for each time the tuple of the states that some near row has there, ascending."""
    check_margin(model, signs, margin)
    return met_of(model, signs, margin)


def agreed(model, signs, margin):
    """Return for each time the state that all near rows have there, or None."""
    check_margin(model, signs, margin)
    return tuple([states[0] if len(states) == 1 else None for states in met_of(model, signs, margin)])


def met_evidence(model, signs, margin, time, state):
    """Return evidence that some near row has the state at the time, or that none has."""
    check_place(model, signs, margin, time, state)
    ahead = ahead_of_all(model, signs)
    if state in met_of(model, signs, margin)[time]:
        return ("met", best_through(model, signs, time, state), ahead)
    return ("not", best_of_all(model, signs)[0], ahead, floors_of(model, signs))


def accepts_met(model, signs, margin, time, state, value):
    """Tell whether the value is evidence that some near row has the state at the time, or that none has."""
    check_place(model, signs, margin, time, state)
    if not isinstance(value, tuple) or len(value) not in (3, 4) or not isinstance(value[0], str):
        return False
    word, row, ahead = value[:3]
    if not is_row(row, model, signs) or not are_floors(ahead, model, signs) or not are_right_ahead(model, signs, ahead):
        return False
    most = sum_of_steps(model, signs, row)
    if len(value) == 3:
        return word == "met" and row[time] == state and most <= min(ahead[-1]) + margin
    behind = value[3]
    if word != "not" or not are_floors(behind, model, signs) or not are_right_floors(model, signs, behind):
        return False
    return ahead[time][state] + behind[time][state] > most + margin
