"""Models, their signs and rows, and what rows cost."""

from surepast.errors import BadValue

MOST_COST = 3
MOST_STATES = 3
MOST_KINDS = 3
MOST_SIGNS = 20


def is_whole(value):
    """Tell whether the value is an integer."""
    # For Python, True and False are integers; for this program they are not.
    return isinstance(value, int) and not isinstance(value, bool)


def is_number(value, low, high):
    """Tell whether the value is an integer from low to high."""
    return is_whole(value) and low <= value <= high


def are_numbers(values, low, high):
    """Tell whether all of the values are integers from low to high."""
    return all([is_number(value, low, high) for value in values])


def is_tuple(value, least, most):
    """Tell whether the value is a tuple of at least and at most so many items."""
    return isinstance(value, tuple) and least <= len(value) <= most


def is_table(value, rows, columns):
    """Tell whether the value is a tuple of so many tuples of so many costs."""
    if not is_tuple(value, rows, rows):
        return False
    return all([is_tuple(row, columns, columns) and are_numbers(row, 0, MOST_COST) for row in value])


def is_model(value):
    """Tell whether the value is a model."""
    if not is_tuple(value, 3, 3):
        return False
    begin, change, show = value
    if not is_tuple(begin, 1, MOST_STATES) or not are_numbers(begin, 0, MOST_COST):
        return False
    states = len(begin)
    if not is_table(change, states, states) or not is_tuple(show, states, states):
        return False
    # The first state's show costs tell how many signs there are.
    return is_tuple(show[0], 1, MOST_KINDS) and is_table(show, states, len(show[0]))


def is_state(value, model):
    """Tell whether the value is a state of the model."""
    return is_number(value, 0, len(model[0]) - 1)


def is_sign(value, model):
    """Tell whether the value is a sign of the model."""
    return is_number(value, 0, len(model[2][0]) - 1)


def are_signs(value, model, least, most):
    """Tell whether the value is a tuple of at least and at most so many signs of the model."""
    return is_tuple(value, least, most) and are_numbers(value, 0, len(model[2][0]) - 1)


def is_signs(value, model):
    """Tell whether the value is signs for the model."""
    return are_signs(value, model, 0, MOST_SIGNS)


def are_states(value, model, least, most):
    """Tell whether the value is a tuple of at least and at most so many states of the model."""
    return is_tuple(value, least, most) and are_numbers(value, 0, len(model[0]) - 1)


def is_row(value, model, signs):
    """Tell whether the value is a row for the signs of the model."""
    return are_states(value, model, len(signs), len(signs))


def check_model(model):
    """Raise BadValue if this is not a model."""
    if not is_model(model):
        raise BadValue("model")


def check_signs(model, signs):
    """Raise BadValue if these are not a model and signs for it."""
    check_model(model)
    if not is_signs(signs, model):
        raise BadValue("signs")


def check_row(model, signs, row):
    """Raise BadValue if these are not a model, signs for it and a row for them."""
    check_signs(model, signs)
    if not is_row(row, model, signs):
        raise BadValue("row")


def coming(model, row, time, state):
    """Return the cost with which the state is come to at the time, behind what the row has before it."""
    begin, change = model[0], model[1]
    return begin[state] if time == 0 else change[row[time - 1]][state]


def steps_of(model, signs, row):
    """Return what `steps` does, for arguments that were checked."""
    show = model[2]
    return tuple([(coming(model, row, time, state), show[state][signs[time]]) for time, state in enumerate(row)])


def sum_of_steps(model, signs, row):
    """Return what `cost_of` does, for arguments that were checked."""
    return sum([come + shown for come, shown in steps_of(model, signs, row)])


def cost_of(model, signs, row):
    """Return the cost of the row for the signs."""
    check_row(model, signs, row)
    return sum_of_steps(model, signs, row)


def steps(model, signs, row):
    """Return a pair for each state of the row: the costs of coming to it and of showing the sign in it."""
    check_row(model, signs, row)
    return steps_of(model, signs, row)


def is_better(model, signs, row, other):
    """Tell whether the row costs less than the other one, or as much and is less as a tuple."""
    check_row(model, signs, row)
    if not is_row(other, model, signs):
        raise BadValue("other")
    return (sum_of_steps(model, signs, row), row) < (sum_of_steps(model, signs, other), other)
