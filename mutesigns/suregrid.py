"""The sure grid of a book, and where two grids are unlike."""

from mutesigns.answers import words_of
from mutesigns.checks import SIDES
from mutesigns.errors import BadGrid, Misfit
from mutesigns.grids import Grid, numbered
from mutesigns.sayings import twos_of


def sure_grid(book):
    """The Grid in which just those signs are alike that surely are."""
    words = words_of(book)
    sure = [(side, one, other) for side, one, other, word in words if word == "sure"]
    columns, rows = [numbered(_heads(book.signs, sure, side)) for side in SIDES]
    return Grid(book.signs, rows, columns)


def _heads(signs, sure, side):
    """For each sign the least one that is surely alike with it on the side."""
    return [min([one for one in signs if one == sign or (side, one, sign) in sure]) for sign in signs]


def parts_of(one, other):
    """All (side, first, second) of signs that are alike on this side in just one of two Grids, ascending."""
    if not isinstance(one, Grid):
        raise BadGrid("one")
    if not isinstance(other, Grid):
        raise BadGrid("other")
    if one.signs != other.signs:
        raise Misfit("signs")
    asked = [(side, first, second) for side in SIDES for first, second in twos_of(one.signs)]
    return tuple([two for two in asked if one.are_alike(*two) != other.are_alike(*two)])
