"""Delays: behind how many further signs all is sure, and the evidence for it."""

from surepast.conditions import condition_of, is_closed_set_of, is_condition
from surepast.errors import BadValue
from surepast.futures import is_ascending
from surepast.marked import Marker, Web, last_marked
from surepast.models import are_numbers, are_signs, check_model, is_number, is_tuple, is_whole

MOST_TOLD = 2000
MOST_NUMBER = 20


def is_marked(value, model):
    """Tell whether the value is a marked condition of the model, whether it comes or not."""
    if not is_tuple(value, 3, 3) or not is_condition(value[:2], model):
        return False
    states = len(model[0])
    return is_tuple(value[2], states, states) and are_numbers(value[2], 0, states - 1)


def is_ranked(value, model):
    """Tell whether the value is a pair of a marked condition and a rank."""
    return is_tuple(value, 2, 2) and is_marked(value[0], model) and is_whole(value[1]) and value[1] >= 1


def are_ranks(value, model):
    """Tell whether the value is an ascending tuple of different marked conditions with their ranks."""
    if not isinstance(value, tuple) or not all([is_ranked(pair, model) for pair in value]):
        return False
    return is_ascending([marked for marked, rank in value])


def is_within(marker, ranks, marked, most):
    """Tell whether the marked condition is decided, or stands in the ranks with at most this one."""
    if marked in ranks and ranks[marked] <= most:
        return True
    return not marker.is_undecided(marked)


def accepts_within(model, number, conditions, ranks):
    """Tell whether these are evidence that all is sure behind the number."""
    if not is_whole(number) or number < 0:
        return False
    if not is_closed_set_of(conditions, model) or not are_ranks(ranks, model):
        return False
    marker = Marker(model)
    rank_of = {marked: rank for marked, rank in ranks}
    if not all([is_within(marker, rank_of, last_marked(held), number) for held in conditions]):
        return False
    return all([
        is_within(marker, rank_of, marker.with_sign_behind(marked, sign), rank - 1)
        for marked, rank in ranks for sign in marker.kinds
    ])


def accepts_never(model, signs, further, again):
    """Tell whether these are evidence that there is no delay; `again` is the round that comes again and again."""
    if not are_signs(signs, model, 1, MOST_TOLD) or not are_signs(further, model, 0, MOST_TOLD):
        return False
    if not are_signs(again, model, 1, MOST_TOLD):
        return False
    marker = Marker(model)
    marked = marker.with_all_behind(last_marked(condition_of(model, signs)), further)
    return marker.is_undecided(marked) and marker.with_all_behind(marked, again) == marked


def delay(model):
    """Return the least number of further signs behind which all is sure, or None if there is none."""
    check_model(model)
    return Web(model).delay()


def undecided(model, number):
    """Return the first signs, and so many further ones, behind which their last time is still open, or None."""
    check_model(model)
    if not is_number(number, 0, MOST_NUMBER):
        raise BadValue("number")
    web = Web(model)
    held = web.first_lasting(number)
    if held is None:
        return None
    return (web.first[held], web.further(last_marked(held), number))


def delay_evidence(model):
    """Return evidence that all is sure behind the delay, or that there is none."""
    check_model(model)
    web = Web(model)
    number = web.delay()
    if number is not None:
        return ("within", number, tuple(sorted(web.first)), tuple(sorted(web.ranks.items())))
    # No rank is greater than the number of all: so what lasts as long as that lasts for ever.
    held = web.first_lasting(len(web.ways))
    further, again = web.for_ever(last_marked(held))
    return ("never", web.first[held], further, again)


def accepts_delay(model, value):
    """Tell whether the value is evidence of either word."""
    check_model(model)
    if not is_tuple(value, 4, 4) or not isinstance(value[0], str):
        return False
    word, first, second, third = value
    if word == "within":
        return accepts_within(model, first, second, third)
    return word == "never" and accepts_never(model, first, second, third)
