"""Conditions: all that signs leave behind for what comes after them."""

from surepast.errors import BadValue
from surepast.futures import is_ascending, least_table, less_least
from surepast.made import is_order
from surepast.models import are_numbers, are_signs, check_model, is_sign, is_tuple

MOST_IN_SET = 2000
MOST_BEHIND = 200
MOST_IN_CONDITION = 9


def is_condition(value, model):
    """Tell whether the value is a condition of the model, whether it comes or not."""
    if not is_tuple(value, 2, 2):
        return False
    costs, order = value
    states = len(model[0])
    if not is_tuple(costs, states, states) or not are_numbers(costs, 0, MOST_IN_CONDITION):
        return False
    return min(costs) == 0 and is_order(order, model)


def condition_of_one(model, sign):
    """Return the condition of a single sign."""
    begin, show = model[0], model[2]
    states = range(len(begin))
    return (less_least([begin[state] + show[state][sign] for state in states]), tuple(states))


def origin_of(model, held, later):
    """Return the state from which the state is come to, behind the condition that is held."""
    costs, order = held
    change = model[1]
    return min([(costs[state] + change[state][later], place, state) for place, state in enumerate(order)])[2]


def origins_of(model, held):
    """Return the origins of all states behind the condition that is held: they are the same for each sign."""
    return tuple([origin_of(model, held, later) for later in range(len(held[0]))])


def condition_behind(model, held, sign):
    """Return the condition that is held with the sign behind it."""
    costs, order = held
    change, show = model[1], model[2]
    come_from = origins_of(model, held)
    sums = [costs[state] + change[state][later] + show[later][sign] for later, state in enumerate(come_from)]
    places = sorted([(order.index(state), later) for later, state in enumerate(come_from)])
    return (less_least(sums), tuple([later for place, later in places]))


def condition_of(model, signs):
    """Return the condition of at least one sign, however many."""
    held = condition_of_one(model, signs[0])
    for sign in signs[1:]:
        held = condition_behind(model, held, sign)
    return held


def winner_of(held, numbers):
    """Return the state that wins if these are the numbers of the states."""
    costs, order = held
    return min([(costs[state] + numbers[state], place, state) for place, state in enumerate(order)])[2]


def winners_of(held, table):
    """Return the states that win for some member of the table, ascending."""
    return tuple(sorted({winner_of(held, numbers) for numbers in table}))


class Winners:
    """Tells which states can still win behind conditions of one model, and keeps what it told."""

    def __init__(self, model):
        self.table = least_table(model)
        self.kept = {}

    def behind(self, held):
        """Return the states that can still win behind the condition that is held, ascending."""
        if held not in self.kept:
            self.kept[held] = winners_of(held, self.table)
        return self.kept[held]


def layer_behind(model, found, layer):
    """Add to what is found the conditions that come with one sign behind those of the layer; return the new ones."""
    newest = []
    for held in layer:
        for sign in range(len(model[2][0])):
            behind = condition_behind(model, held, sign)
            if behind not in found:
                found[behind] = found[held] + (sign,)
                newest.append(behind)
    return newest


def found_conditions(model):
    """Return a dict from all conditions that come to their first signs, these in order by length."""
    found = {}
    for sign in range(len(model[2][0])):
        found.setdefault(condition_of_one(model, sign), (sign,))
    # First signs without the last of them are first signs, too: so each layer's come from the one before.
    layer = list(found)
    while layer:
        layer = layer_behind(model, found, layer)
    return found


def is_closed_set_of(value, model):
    """Tell whether the value is a closed set of conditions of a model that was checked."""
    if not is_tuple(value, 1, MOST_IN_SET):
        return False
    if not all([is_condition(held, model) for held in value]) or not is_ascending(value):
        return False
    members = set(value)
    signs = range(len(model[2][0]))
    if not all([condition_of_one(model, sign) in members for sign in signs]):
        return False
    return all([condition_behind(model, held, sign) in members for held in value for sign in signs])


def check_condition(model, condition):
    """Raise BadValue if these are not a model and a condition of it."""
    check_model(model)
    if not is_condition(condition, model):
        raise BadValue("condition")


def check_condition_and_sign(model, condition, sign):
    """Raise BadValue if these are not a model, a condition and a sign of it."""
    check_condition(model, condition)
    if not is_sign(sign, model):
        raise BadValue("sign")


def condition(model, signs):
    """Return the condition of the signs."""
    check_model(model)
    if not are_signs(signs, model, 1, MOST_BEHIND):
        raise BadValue("signs")
    return condition_of(model, signs)


def origins(model, condition, sign):
    """Return for each state the state from which it is come to with the sign."""
    check_condition_and_sign(model, condition, sign)
    return origins_of(model, condition)


def with_sign(model, condition, sign):
    """Return the condition with this sign behind it."""
    check_condition_and_sign(model, condition, sign)
    return condition_behind(model, condition, sign)


def can_win(model, condition):
    """Return the states that can still win, ascending."""
    check_condition(model, condition)
    return winners_of(condition, least_table(model))


def all_conditions(model):
    """Return the list of all conditions that come, ascending, each with its first signs."""
    check_model(model)
    return sorted(found_conditions(model).items())


def is_closed_set(model, value):
    """Tell whether the value is a closed set of conditions of the model."""
    check_model(model)
    return is_closed_set_of(value, model)
