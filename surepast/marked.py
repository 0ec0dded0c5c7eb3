"""Marked conditions: conditions that also hold which state of one past time is told by each best row."""

from surepast.conditions import Winners, condition_behind, found_conditions, origins_of
from surepast.errors import TooLarge

MOST_OPEN = 2000


def last_marked(held):
    """Return the condition that is held as a marked one, with its last time marked."""
    return held + (tuple(range(len(held[0]))),)


class Marker:
    """Reckons with the marked conditions of one model."""

    def __init__(self, model):
        self.model = model
        self.kinds = list(range(len(model[2][0])))
        self.winners = Winners(model)

    def is_undecided(self, marked):
        """Tell whether the marked condition is open."""
        marks = marked[2]
        return len({marks[state] for state in self.winners.behind(marked[:2])}) > 1

    def with_sign_behind(self, marked, sign):
        """Return the marked condition with the sign behind it."""
        held, marks = marked[:2], marked[2]
        new_marks = tuple([marks[state] for state in origins_of(self.model, held)])
        return condition_behind(self.model, held, sign) + (new_marks,)

    def with_all_behind(self, marked, signs):
        """Return the marked condition with all of the signs behind it."""
        for sign in signs:
            marked = self.with_sign_behind(marked, sign)
        return marked

    def ways_from(self, marked):
        """Return for each sign the marked condition with it behind, or None where this is decided."""
        come = [self.with_sign_behind(marked, sign) for sign in self.kinds]
        return tuple([behind if self.is_undecided(behind) else None for behind in come])


def undecided_ways(marker, starts):
    """Return a dict of the open ones of these marked conditions, and of all that come from them, with their ways."""
    found = {}
    left = [marked for marked in starts if marker.is_undecided(marked)]
    # What is decided stays so: therefore open ones come from open ones alone.
    while left:
        marked = left.pop()
        if marked in found:
            continue
        if len(found) == MOST_OPEN:
            raise TooLarge("conditions")
        found[marked] = marker.ways_from(marked)
        left.extend([behind for behind in found[marked] if behind is not None])
    return found


def next_ranked(ways, ranks):
    """Return those without a rank from which each way leads to a rank, or to what is decided."""
    return [
        marked for marked in ways
        if marked not in ranks and all([behind is None or behind in ranks for behind in ways[marked]])
    ]


def ranks_of(ways):
    """Return a dict with the ranks of those that do not stay open for ever."""
    ranks = {}
    rank = 1
    newest = next_ranked(ways, ranks)
    while newest:
        for marked in newest:
            ranks[marked] = rank
        rank += 1
        newest = next_ranked(ways, ranks)
    return ranks


class Web:
    """All conditions that come in one model, and the open marked ones that come from them."""

    def __init__(self, model):
        self.first = found_conditions(model)
        self.ways = undecided_ways(Marker(model), [last_marked(held) for held in self.first])
        self.ranks = ranks_of(self.ways)

    def delay(self):
        """Return the delay, or None if there is none."""
        if len(self.ranks) < len(self.ways):
            return None
        starts = [last_marked(held) for held in self.first]
        return max([self.ranks[marked] for marked in starts if marked in self.ranks], default=0)

    def lasts(self, marked, number):
        """Tell whether the marked condition is open, and can still be so behind so many further signs."""
        return marked in self.ways and (marked not in self.ranks or self.ranks[marked] > number)

    def first_lasting(self, number):
        """Return the first condition whose last time can still be open behind so many further signs, or None."""
        lasting = [held for held in self.first if self.lasts(last_marked(held), number)]
        return lasting[0] if lasting else None

    def next_lasting(self, marked, number):
        """Return the first sign behind which the marked condition lasts for so many further signs."""
        return [self.lasts(behind, number) for behind in self.ways[marked]].index(True)

    def further(self, marked, number):
        """Return the first so many further signs, as a tuple, behind which the marked condition is open."""
        signs = []
        for left in reversed(range(number)):
            signs.append(self.next_lasting(marked, left))
            marked = self.ways[marked][signs[-1]]
        return tuple(signs)

    def for_ever(self, marked):
        """Return further signs, and then a round of signs behind which the same marked condition comes again."""
        signs = []
        places = {}
        while marked not in places:
            places[marked] = len(signs)
            # No rank is greater than the number of all: so what lasts as long as that has none.
            signs.append(self.next_lasting(marked, len(self.ways)))
            marked = self.ways[marked][signs[-1]]
        return (tuple(signs[:places[marked]]), tuple(signs[places[marked]:]))
