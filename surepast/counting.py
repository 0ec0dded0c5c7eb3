"""Counting signs by how many times they leave open, without listing them."""

from surepast.conditions import Winners, condition_behind, condition_of_one, origins_of
from surepast.errors import BadValue
from surepast.models import are_signs, check_model, is_number

MOST_LENGTH = 12


class Walk:
    """Goes from sign to sign in one model, and knows at each place what matters for the open times.

    A place is None in the beginning. Then it is a pair of the condition and of how far apart the best rows
    are: for each two states how many of the last times the best rows that end in them do not have in common.
    """

    def __init__(self, model):
        self.model = model
        self.kinds = list(range(len(model[2][0])))
        self.states = list(range(len(model[0])))
        self.winners = Winners(model)
        self.kept = {}
        self.moves = {}

    def behind(self, place, sign):
        """Return the place that is come to with the sign."""
        if (place, sign) not in self.kept:
            self.kept[place, sign] = self.first_place(sign) if place is None else self.next_place(place, sign)
        return self.kept[place, sign]

    def move(self, held, sign):
        """Return the origins, and the condition behind the one that is held, with the sign."""
        # Far fewer conditions come than places.
        if (held, sign) not in self.moves:
            self.moves[held, sign] = (origins_of(self.model, held), condition_behind(self.model, held, sign))
        return self.moves[held, sign]

    def first_place(self, sign):
        """Return the place behind a single sign."""
        apart = tuple([tuple([int(state != other) for other in self.states]) for state in self.states])
        return (condition_of_one(self.model, sign), apart)

    def next_place(self, place, sign):
        """Return the place behind another one with the sign."""
        held, before = place
        come_from, held_behind = self.move(held, sign)
        apart = [[before[origin][other] + 1 for other in come_from] for origin in come_from]
        for state in self.states:
            apart[state][state] = 0
        return (held_behind, tuple([tuple(row) for row in apart]))

    def left_open(self, place):
        """Return how many times are open at the place."""
        if place is None:
            return 0
        held, apart = place
        left = self.winners.behind(held)
        return max([apart[state][other] for state in left for other in left])


def next_layer(walk, layer):
    """Return a dict of the places one sign behind those of the layer, with how many tuples of signs lead to them."""
    newest = {}
    for place, many in layer.items():
        for sign in walk.kinds:
            behind = walk.behind(place, sign)
            newest[behind] = newest.get(behind, 0) + many
    return newest


def layers_of(walk, length):
    """Return the list of the layers of places behind none, one and up to so many signs."""
    layers = [{None: 1}]
    for _ in range(length):
        layers.append(next_layer(walk, layers[-1]))
    return layers


def numbers_of(walk, length):
    """Return the numbers of the length."""
    numbers = [0] * (length + 1)
    for place, many in layers_of(walk, length)[-1].items():
        numbers[walk.left_open(place)] += many
    return tuple(numbers)


def endings_of(walk, length, number):
    """Return for none, one and up to so many signs a dict of the places there, each with its endings.

    The endings are how many tuples of the signs that are still to come leave exactly this number of times open.
    """
    layers = layers_of(walk, length)
    endings = [{place: int(walk.left_open(place) == number) for place in layers[-1]}]
    for layer in reversed(layers[:-1]):
        later = endings[-1]
        endings.append({place: sum([later[walk.behind(place, sign)] for sign in walk.kinds]) for place in layer})
    return list(reversed(endings))


def before_signs(walk, place, later):
    """Return for each sign how many endings the lesser signs have, and all of them at last."""
    before = [0]
    for sign in walk.kinds:
        before.append(before[-1] + later[walk.behind(place, sign)])
    return before


def signs_at(walk, endings, index):
    """Return the signs with the index among those that the endings count."""
    place = None
    signs = []
    left = index
    for later in endings[1:]:
        before = before_signs(walk, place, later)
        sign = [left < many for many in before[1:]].index(True)
        left -= before[sign]
        signs.append(sign)
        place = walk.behind(place, sign)
    return tuple(signs)


def index_of(walk, endings, signs):
    """Return the index of the signs among those that the endings count."""
    place = None
    index = 0
    for sign, later in zip(signs, endings[1:]):
        index += before_signs(walk, place, later)[sign]
        place = walk.behind(place, sign)
    return index


def check_length(model, length):
    """Raise BadValue if these are not a model and a length."""
    check_model(model)
    if not is_number(length, 0, MOST_LENGTH):
        raise BadValue("length")


def count_open(model, length):
    """Return for each number of times how many tuples of so many signs leave exactly so many open."""
    check_length(model, length)
    return numbers_of(Walk(model), length)


def nth_open(model, length, number, index):
    """Return the signs with the index among those of the length that leave exactly this number of times open."""
    check_length(model, length)
    if not is_number(number, 0, length):
        raise BadValue("number")
    walk = Walk(model)
    endings = endings_of(walk, length, number)
    if not is_number(index, 0, endings[0][None] - 1):
        raise BadValue("index")
    return signs_at(walk, endings, index)


def index_open(model, signs):
    """Return how many times the signs leave open, and their index among those that leave as many open."""
    check_model(model)
    if not are_signs(signs, model, 0, MOST_LENGTH):
        raise BadValue("signs")
    walk = Walk(model)
    place = None
    for sign in signs:
        place = walk.behind(place, sign)
    number = walk.left_open(place)
    return (number, index_of(walk, endings_of(walk, len(signs), number), signs))


def worst_signs(model, length):
    """Return the first ones of the signs of the length that leave the most times open."""
    check_length(model, length)
    walk = Walk(model)
    numbers = numbers_of(walk, length)
    worst = max([number for number, many in enumerate(numbers) if many > 0])
    return signs_at(walk, endings_of(walk, length, worst), 0)
