"""The classes of futures: profiles of further signs, and tables that have all of them."""

from surepast.best import to_go
from surepast.errors import BadValue
from surepast.models import are_numbers, check_model, check_signs, is_sign, is_tuple

MOST_MEMBERS = 64
MOST_IN_TABLE = 9
FARTHEST = 1000


def less_least(numbers):
    """Return the numbers, each of them less the least one."""
    least = min(numbers)
    return tuple([number - least for number in numbers])


def ahead_of(model, sign, numbers):
    """Return what `with_ahead` does, for arguments that were checked."""
    return less_least(to_go(model, sign, numbers))


def layer_ahead(model, found, layer):
    """Add to what is found the profiles that come with one sign ahead of those of the layer; return the new ones."""
    newest = []
    for sign in range(len(model[2][0])):
        for numbers in layer:
            ahead = ahead_of(model, sign, numbers)
            if ahead not in found:
                found[ahead] = (sign,) + found[numbers]
                newest.append(ahead)
    return newest


def found_profiles(model):
    """Return a dict from all profiles to their first signs, these in order by length."""
    noughts = (0,) * len(model[0])
    found = {noughts: ()}
    # First signs without the first of them are first signs, too: so each layer's come from the one before.
    layer = [noughts]
    while layer:
        layer = layer_ahead(model, found, layer)
    return found


def least_table(model):
    """Return the least table of a model that was checked."""
    return tuple(sorted(found_profiles(model)))


def is_ascending(values):
    """Tell whether each of the values is greater than the one before it."""
    return all([before < behind for before, behind in zip(values, values[1:])])


def is_table_of_numbers(value, model):
    """Tell whether the value is a table of the model, closed or not."""
    if not is_tuple(value, 1, MOST_MEMBERS):
        return False
    states = len(model[0])
    if not all([is_tuple(member, states, states) and are_numbers(member, 0, MOST_IN_TABLE) for member in value]):
        return False
    return is_ascending(value)


def is_closed_table(value, model):
    """Tell whether the value is a closed table of a model that was checked."""
    if not is_table_of_numbers(value, model) or (0,) * len(model[0]) not in value:
        return False
    signs = range(len(model[2][0]))
    return all([ahead_of(model, sign, member) in value for member in value for sign in signs])


def profile(model, signs):
    """Return the cost to go of each state for the further signs, less the least of these costs."""
    check_signs(model, signs)
    numbers = (0,) * len(model[0])
    for sign in reversed(signs):
        numbers = ahead_of(model, sign, numbers)
    return numbers


def with_ahead(model, sign, numbers):
    """Return what the numbers of the states become with the sign ahead."""
    check_model(model)
    if not is_sign(sign, model):
        raise BadValue("sign")
    states = len(model[0])
    if not is_tuple(numbers, states, states) or not are_numbers(numbers, -FARTHEST, FARTHEST):
        raise BadValue("numbers")
    return ahead_of(model, sign, numbers)


def profiles(model):
    """Return the least table: all profiles, ascending."""
    check_model(model)
    return least_table(model)


def first_signs(model):
    """Return the list of all profiles, ascending, each with its first signs."""
    check_model(model)
    return sorted(found_profiles(model).items())


def is_closed(model, value):
    """Tell whether the value is a closed table of the model."""
    check_model(model)
    return is_closed_table(value, model)


def spread(model):
    """Return the greatest number of all profiles."""
    check_model(model)
    # The least number of a profile is 0: so its spread is its greatest one.
    return max([max(numbers) for numbers in least_table(model)])
