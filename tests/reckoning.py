"""Conditions and marked conditions, reckoned plainly by the words of points 55 to 69."""

from functools import lru_cache
from random import Random

from surepast.futures import profiles
from tests.samples import all_rows, best_from_behind, best_of, plain_cost


def states_of(model):
    return range(len(model[0]))


def kinds(model):
    return range(len(model[2][0]))


# The table of a model is reckoned once only, so that the tests don't take too long.
table_of = lru_cache(profiles)


def condition_of_ends(ends):
    """The condition that these costs and rows of the states make up."""
    least = min(cost for cost, row in ends)
    order = sorted(range(len(ends)), key=lambda state: ends[state][1])
    return (tuple(cost - least for cost, row in ends), tuple(order))


def plain_condition(model, signs):
    """Point 64, word by word, by all rows."""
    ends = []
    for state in states_of(model):
        row = best_of(model, signs, [row for row in all_rows(model, signs) if row[-1] == state])
        ends.append((plain_cost(model, signs, row), row))
    return condition_of_ends(ends)


def quick_condition(model, signs):
    """Point 64 for signs that have too many rows."""
    return condition_of_ends([best_from_behind(model, signs, [state]) for state in states_of(model)])


def plain_origins(model, held):
    """Point 65, word by word."""
    costs, order = held
    found = []
    for later in states_of(model):
        sums = [costs[state] + model[1][state][later] for state in states_of(model)]
        found.append([state for state in order if sums[state] == min(sums)][0])
    return tuple(found)


def plain_with_sign(model, held, sign):
    """Point 65, word by word."""
    costs, order = held
    come_from = plain_origins(model, held)
    new = [costs[come_from[to]] + model[1][come_from[to]][to] + model[2][to][sign] for to in states_of(model)]
    new_order = [to for state in order for to in states_of(model) if come_from[to] == state]
    return (tuple(cost - min(new) for cost in new), tuple(new_order))


def plain_can_win(model, held):
    """Point 69, word by word."""
    costs, order = held
    won = set()
    for numbers in table_of(model):
        sums = [cost + number for cost, number in zip(costs, numbers)]
        won.add([state for state in order if sums[state] == min(sums)][0])
    return tuple(sorted(won))


def any_conditions(model, seed, many=15):
    """Conditions with costs up to 9, most of which do not come."""
    source = Random(seed)
    found = []
    for _ in range(many):
        costs = [source.choice((0, 1, 2, 3, 6, 9)) for _ in states_of(model)]
        costs[source.randrange(len(costs))] = 0
        order = list(states_of(model))
        source.shuffle(order)
        found.append((tuple(costs), tuple(order)))
    return found


def set_with(model, members):
    """The members, the conditions of single signs, and all that come of these with further signs, ascending."""
    found = set()
    left = [quick_condition(model, (sign,)) for sign in kinds(model)] + list(members)
    while left:
        held = left.pop()
        if held not in found:
            found.add(held)
            left += [plain_with_sign(model, held, sign) for sign in kinds(model)]
    return tuple(sorted(found))


def is_condition_by_words(model, held):
    """Point 72, for a pair of tuples of integers."""
    costs, order = held
    right = len(costs) == len(model[0]) and min(costs) == 0 and max(costs) <= 9
    return right and sorted(order) == list(states_of(model))


def is_closed_by_words(model, value):
    """Point 68, word by word, for a tuple of pairs of tuples of integers."""
    if not 1 <= len(value) <= 2000 or any(one >= other for one, other in zip(value, value[1:])):
        return False
    if not all(is_condition_by_words(model, held) for held in value):
        return False
    members = set(value)
    if any(quick_condition(model, (sign,)) not in members for sign in kinds(model)):
        return False
    return all(plain_with_sign(model, held, sign) in members for held in value for sign in kinds(model))


def last_marked(held):
    return (*held, tuple(range(len(held[0]))))


def marked_with(model, marked, sign):
    """Point 54, word by word."""
    costs, order, marks = marked
    come_from = plain_origins(model, (costs, order))
    return (*plain_with_sign(model, (costs, order), sign), tuple(marks[state] for state in come_from))


def marked_with_all(model, marked, signs):
    for sign in signs:
        marked = marked_with(model, marked, sign)
    return marked


def is_open(model, marked):
    """Point 55, word by word."""
    return len({marked[2][state] for state in plain_can_win(model, marked[:2])}) > 1


def web_of(model, conditions):
    """The open marked conditions that come of these conditions, each with what comes behind it, sign by sign."""
    found = {}
    left = [last_marked(held) for held in conditions]
    while left:
        marked = left.pop()
        if marked not in found and is_open(model, marked):
            found[marked] = [marked_with(model, marked, sign) for sign in kinds(model)]
            left += found[marked]
    return found


def ranks_in(web):
    """The rank of each open marked condition, and None for those that can stay open for ever."""
    ranks = dict.fromkeys(web, 0)
    last = set(web)
    while last:
        for marked in last:
            ranks[marked] += 1
        left = {marked for marked in last if any(behind in last for behind in web[marked])}
        if left == last:
            ranks.update(dict.fromkeys(left))
            break
        last = left
    return ranks


@lru_cache(maxsize=None)
def ends_of(model, signs):
    """The costs and rows of the ending rows, by point 19."""
    begin, change, show = model
    if len(signs) == 1:
        return [(begin[state] + show[state][signs[0]], (state,)) for state in states_of(model)]
    before = ends_of(model, signs[:-1])
    return [
        min((cost + change[row[-1]][state] + show[state][signs[-1]], row + (state,)) for cost, row in before)
        for state in states_of(model)
    ]


def many_sure(model, signs):
    """How many first states are sure, by points 41 to 43."""
    if not signs:
        return 0
    ends = ends_of(model, signs)
    rows = [min((cost + number, row) for (cost, row), number in zip(ends, numbers))[1] for numbers in table_of(model)]
    many = 0
    while many < len(signs) and len({row[many] for row in rows}) == 1:
        many += 1
    return many
