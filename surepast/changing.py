"""How far a cost of a model can change until another row is the best one."""

from surepast.best import best_of_all
from surepast.errors import BadValue
from surepast.models import (
    check_signs, coming, is_number, is_row, is_sign, is_state, is_tuple, sum_of_steps,
)

MOST_USES = 20
MOST_CHANGE = 100


def places_used(signs, row, time):
    """Return the two places whose costs are added up at the time in the cost of the row."""
    state = row[time]
    come = ("begin", state) if time == 0 else ("change", row[time - 1], state)
    return (come, ("show", state, signs[time]))


def used(signs, place, row):
    """Return how many times the row uses the place."""
    return sum([places_used(signs, row, time).count(place) for time in range(len(row))])


def layer_behind(model, signs, place, layer):
    """Return the layer of the rows that are longer by one state than those of this one.

    A layer is a dict of the costs and the rows of the best rows, by their last state and how often they use the place.
    """
    newest = {}
    for (before, many), (cost, row) in layer.items():
        time = len(row)
        for state, shown in enumerate(model[2]):
            longer = row + (state,)
            found = (cost + coming(model, row, time, state) + shown[signs[time]], longer)
            at = (state, many + places_used(signs, longer, time).count(place))
            newest[at] = min(newest.get(at, found), found)
    return newest


def best_by_uses(model, signs, place):
    """Return a dict of the costs and the rows of the best rows, by how often they use the place."""
    layer = {(None, 0): (0, ())}
    for _ in signs:
        layer = layer_behind(model, signs, place, layer)
    best = {}
    for (state, many), found in layer.items():
        best[many] = min(best.get(many, found), found)
    return best


def with_change(model, signs, place, by, row):
    """Return what `changed_cost` does, for arguments that were checked."""
    return sum_of_steps(model, signs, row) + by * used(signs, place, row)


def last_change(best, others):
    """Return the greatest change with which the best one stays better than all others, or None if each is one.

    The best one is a cost and a row; each of the others, too, and beside it how much it gains by a change of 1.
    """
    lasts = []
    for gain, (cost, row) in others:
        # With a change that makes both cost the same, the lesser row is the better one.
        lead = cost - best[0] - int(row < best[1])
        lasts.append(lead // gain)
    return min(lasts, default=None)


def check_place(model, signs, place):
    """Raise BadValue if these are not a model, signs for it and a place of it."""
    check_signs(model, signs)
    if not is_place(place, model):
        raise BadValue("place")


def check_change(model, signs, place, by):
    """Raise BadValue if these are not a model, signs for it, a place of it and a change."""
    check_place(model, signs, place)
    if not is_number(by, -MOST_CHANGE, MOST_CHANGE):
        raise BadValue("by")


def is_place(value, model):
    """Tell whether the value is a place of the model."""
    if not is_tuple(value, 2, 3) or not isinstance(value[0], str) or not is_state(value[1], model):
        return False
    if len(value) == 2:
        return value[0] == "begin"
    if value[0] == "change":
        return is_state(value[2], model)
    return value[0] == "show" and is_sign(value[2], model)


def uses(model, signs, place, row):
    """Return how many times the cost of the place is added up in the cost of the row."""
    check_place(model, signs, place)
    if not is_row(row, model, signs):
        raise BadValue("row")
    return used(signs, place, row)


def changed_cost(model, signs, place, by, row):
    """Return what the row costs with the change at the place."""
    check_change(model, signs, place, by)
    if not is_row(row, model, signs):
        raise BadValue("row")
    return with_change(model, signs, place, by, row)


def best_with(model, signs, place, many):
    """Return the best one of the rows that use the place so many times, and its cost, or None if there is none."""
    check_place(model, signs, place)
    if not is_number(many, 0, MOST_USES):
        raise BadValue("many")
    best = best_by_uses(model, signs, place)
    if many not in best:
        return None
    cost, row = best[many]
    return (row, cost)


def best_changed(model, signs, place, by):
    """Return the best row with the change at the place, and what it costs with it."""
    check_change(model, signs, place, by)
    found = best_by_uses(model, signs, place)
    cost, row = min([(spent + by * many, states) for many, (spent, states) in found.items()])
    return (row, cost)


def room(model, signs, place):
    """Return how far the cost of the place can fall, and how far it can rise, until another row is the best one."""
    check_place(model, signs, place)
    found = best_by_uses(model, signs, place)
    best = min(found.values())
    many = used(signs, place, best[1])
    down = last_change(best, [(other - many, found[other]) for other in found if other > many])
    up = last_change(best, [(many - other, found[other]) for other in found if other < many])
    return (down, up)


def overtakes(model, signs, place, by, value):
    """Tell whether the value is a row that is better, with the change, than the row that is the best one without it."""
    check_change(model, signs, place, by)
    if not is_row(value, model, signs):
        return False
    best = best_of_all(model, signs)[0]
    return (with_change(model, signs, place, by, value), value) < (with_change(model, signs, place, by, best), best)
