"""Reading: on which sides known signs read the signs of a grid."""

from mutesigns.checks import SIDES, check_signs, check_unlike, is_list
from mutesigns.errors import BadWord
from mutesigns.grids import check_grid
from mutesigns.lots import are_apart

WORDS_READ = {(True, True): "both", (False, True): "row", (True, False): "column", (False, False): "none"}


def read_in(grid, known):
    """For each sign, ascending, the pair of it and of the sides on which the known signs read it."""
    check_grid(grid)
    check_known(known, grid.signs)
    return tuple([(sign, _word_read(grid, known, sign)) for sign in grid.signs])


def check_known(known, signs):
    """Raises BadWord for what is no list, NoSign, Twice for the first that is none of the signs, or stood ahead."""
    if not is_list(known):
        raise BadWord("known")
    check_signs(known, signs)
    check_unlike(known)


def is_read(grid, known, side, sign):
    """Whether one of the known signs is alike with the sign on the side."""
    return any([grid.are_alike(side, sign, one) for one in known])


def _word_read(grid, known, sign):
    """On which sides the known signs read a sign."""
    column, row = [is_read(grid, known, side, sign) for side in SIDES]
    return WORDS_READ[(column, row)]


def next_known(grid, known):
    """The first sign with which, known too, most signs are read on both sides; None if all are read."""
    check_grid(grid)
    check_known(known, grid.signs)
    if first_unread(grid, known) is None:
        return None
    waiting = [sign for sign in grid.signs if sign not in known]
    many = [_many_read(grid, [*known, sign]) for sign in waiting]
    return waiting[many.index(max(many))]


def _many_read(grid, known):
    """How many signs the known ones read on both sides."""
    return len([sign for sign, word in read_in(grid, known) if word == "both"])


def first_unread(grid, known):
    """A side and a sign that no known one reads there, None if the known signs read all signs."""
    for side in SIDES:
        for line in grid.lots(side):
            if are_apart(line, known):
                return (side, line[0])
    return None
