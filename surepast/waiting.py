"""Open times: those whose states are not sure, and the evidence for it."""

from surepast.best import best_of_all, ending_rows
from surepast.errors import BadValue
from surepast.models import check_signs, is_number, is_signs, is_tuple
from surepast.sure import sure_of, survivors_of


def first_open(model, signs):
    """Return what `open_time` does, for arguments that were checked."""
    many = len(sure_of(model, signs))
    return many if many < len(signs) else None


def open_time(model, signs):
    """Return the first time whose state is not sure, or None."""
    check_signs(model, signs)
    return first_open(model, signs)


def told_signs(model, signs):
    """Return two tuples of further signs behind which the best rows differ at the first open time, or None."""
    check_signs(model, signs)
    time = first_open(model, signs)
    if time is None:
        return None
    there = [row[time] for cost, row in ending_rows(model, signs)]
    left = survivors_of(model, signs)
    told = [
        (further, other_further) for state, further in left for other, other_further in left
        if state < other and there[state] != there[other]
    ]
    return told[0]


def accepts_open(model, signs, time, value):
    """Tell whether the value is evidence that the time is open."""
    check_signs(model, signs)
    if not is_number(time, 0, len(signs) - 1):
        raise BadValue("time")
    if not is_tuple(value, 2, 2) or not all([is_signs(further, model) for further in value]):
        return False
    one, other = [best_of_all(model, signs + further)[0] for further in value]
    return one[time] != other[time]
