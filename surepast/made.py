"""Models that are made from other models."""

from surepast.errors import BadValue, NotPossible, TooLarge
from surepast.models import are_numbers, check_model, is_model, is_number, is_state, is_tuple


def is_part(value):
    """Tell whether the value names a part of a model."""
    return isinstance(value, str) and value in ("begin", "change", "show")


def is_order(value, model):
    """Tell whether the value is a tuple with each state of the model exactly once."""
    states = len(model[0])
    if not is_tuple(value, states, states) or not are_numbers(value, 0, states - 1):
        return False
    return sorted(value) == list(range(states))


def costs_raised(costs, number):
    """Return the costs, each of them greater by the number."""
    return tuple([cost + number for cost in costs])


def table_raised(table, number):
    """Return the rows of costs, each cost greater by the number."""
    return tuple([costs_raised(costs, number) for costs in table])


def with_states(model, states):
    """Return the model of these states alone, numbered anew as they stand here."""
    begin, change, show = model
    return (
        tuple([begin[state] for state in states]),
        tuple([tuple([change[state][later] for later in states]) for state in states]),
        tuple([show[state] for state in states]),
    )


def raised(model, part, number):
    """Return the model with all costs of the part greater by the number."""
    check_model(model)
    if not is_part(part):
        raise BadValue("part")
    if not is_number(number, -3, 3):
        raise BadValue("number")
    begin, change, show = model
    if part == "begin":
        begin = costs_raised(begin, number)
    elif part == "change":
        change = table_raised(change, number)
    else:
        show = table_raised(show, number)
    # The form is still that of a model, so only a cost can be wrong here.
    if not is_model((begin, change, show)):
        raise TooLarge("costs")
    return (begin, change, show)


def renamed(model, order):
    """Return the model with order[s] in the place of each state s."""
    check_model(model)
    if not is_order(order, model):
        raise BadValue("order")
    return with_states(model, [order.index(state) for state in range(len(order))])


def without(model, state):
    """Return the model without the state, the other ones numbered anew."""
    check_model(model)
    if not is_state(state, model):
        raise BadValue("state")
    states = len(model[0])
    if states == 1:
        raise NotPossible("alone")
    return with_states(model, [other for other in range(states) if other != state])
