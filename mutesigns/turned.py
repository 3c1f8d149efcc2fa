"""Turnings by numbers: the signs of two books by their places, grids by the bits of their pairs."""

from itertools import permutations

from mutesigns.masks import bits_told, first_mask
from mutesigns.turnings import Turning, bounds_made


class Places:
    """A turning by numbers: for each sign of a book the place of its name in the other one."""

    def __init__(self, places, is_crossed):
        self.places = places
        self.is_crossed = is_crossed


def places_fitting(book, other, pairs, is_crossed):
    """All turnings by numbers, ascending, that fit two books, have these pairs, and are crossed as told."""
    ways = ways_to_cross(book, other, is_crossed)
    wanted = [(book.signs.index(sign), other.signs.index(name)) for sign, name in pairs]
    return [Places(places, way) for places in permutations(range(len(book.signs)))
            if all([places[sign] == name for sign, name in wanted]) for way in ways]


def ways_to_cross(book, other, is_crossed):
    """Of straight and crossed, False and True, those as told, None for both, that make the bounds of the other book."""
    told = (False, True) if is_crossed is None else (is_crossed,)
    return [way for way in told if bounds_made(book, way) == (other.most_rows, other.most_columns)]


def way_back(turn):
    """The way back of a turning by numbers."""
    return Places([turn.places.index(place) for place in range(len(turn.places))], turn.is_crossed)


def turning_told(turn, book, other):
    """The Turning of a turning by numbers."""
    return Turning({sign: other.signs[place] for sign, place in zip(book.signs, turn.places)}, turn.is_crossed)


def pair_made(turn, pair):
    """What a turning by numbers makes of a pair (side, one, other) by numbers."""
    side, one, other = pair
    ends = (turn.places[one], turn.places[other])
    return (1 - side if turn.is_crossed else side, min(ends), max(ends))


def bits_failing(turn, facts, bits):
    """For each fact by numbers the bits that are set, and those that are not, where the fact made of it fails."""
    made = [[(*pair_made(turn, told[:3]), not told[3]) for told in fact] for fact in facts]
    return [bits_told(bits, contraries) for contraries in made]


def first_failing(masks, failing):
    """The first of the grids, told by bits, in which one of the facts fails, told by bits; None if there is none."""
    for alike, apart in failing:
        mask = first_mask(masks, alike, apart)
        if mask is not None:
            return mask
    return None
