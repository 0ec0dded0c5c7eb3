"""Which states of the past are sure, whatever comes."""

from surepast.best import ending_rows
from surepast.errors import BadValue
from surepast.futures import found_profiles, is_closed_table, least_table
from surepast.models import check_signs, is_number


def winning_state(ends, numbers):
    """Return the state whose ending row wins if these are the numbers of the states."""
    least = min([(cost + number, row) for (cost, row), number in zip(ends, numbers)])
    return least[1][-1]


def common_beginning(rows):
    """Return the longest tuple with which each of the rows begins."""
    many = 0
    for states in zip(*rows):
        if min(states) != max(states):
            break
        many += 1
    return rows[0][:many]


def decided_of(model, signs, table):
    """Return what `decided_by` does, for arguments that were checked."""
    if not signs:
        return ()
    ends = ending_rows(model, signs)
    return common_beginning([ends[winning_state(ends, numbers)][1] for numbers in table])


def sure_of(model, signs):
    """Return what `sure_states` does, for arguments that were checked."""
    return decided_of(model, signs, least_table(model))


def survivors_of(model, signs):
    """Return what `survivors` does, for arguments that were checked."""
    if not signs:
        return []
    ends = ending_rows(model, signs)
    first = {}
    # The profiles come in the order of their first signs: so the first one for which a state wins counts.
    for numbers, further in found_profiles(model).items():
        first.setdefault(winning_state(ends, numbers), further)
    return sorted(first.items())


def decided_by(model, signs, table):
    """Return the states that are decided by the closed table."""
    check_signs(model, signs)
    if not is_closed_table(table, model):
        raise BadValue("table")
    return decided_of(model, signs, table)


def sure_states(model, signs):
    """Return the first states of the best row that stay, whatever comes."""
    check_signs(model, signs)
    return sure_of(model, signs)


def survivors(model, signs):
    """Return the list of the states that can still win, ascending, each with its first signs."""
    check_signs(model, signs)
    return survivors_of(model, signs)


def accepts_sure(model, signs, many, value):
    """Tell whether the value is evidence that so many first states of the best row are sure."""
    check_signs(model, signs)
    if not is_number(many, 0, len(signs)):
        raise BadValue("many")
    return is_closed_table(value, model) and len(decided_of(model, signs, value)) >= many
