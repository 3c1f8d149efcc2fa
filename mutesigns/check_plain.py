"""Whether papers of chains, partings and plain books are right."""

from mutesigns.breaks import is_break
from mutesigns.checks import is_list, is_one_of
from mutesigns.grids import Grid
from mutesigns.joins import Chain, NoChain
from mutesigns.partings import Parting, parting_of
from mutesigns.plain import Broken, Finest, check_plain_book, finest
from mutesigns.sayings import other_side
from mutesigns.standing import check_asked_two, joined_lots, lot_with, standing


def shows_chain(book, sayings, side, one, other, value):
    """Whether any value is a Chain from one to other, or a NoChain by which none leads there."""
    check_asked_two(book, sayings, side, one, other)
    twos = _twos_told(standing(book, sayings), side, True)
    if type(value) is Chain:
        return _are_signs(book, value.signs) and _is_chain(twos, one, other, value.signs)
    if type(value) is NoChain:
        return _are_signs(book, value.signs) and _is_closed(twos, one, other, value.signs)
    return False


def _twos_told(told, side, is_alike):
    """All pairs of signs that are said to be alike, or apart, on the side, each the lesser sign first."""
    return [(saying.one, saying.other) for saying in told if saying.side == side and saying.alike == is_alike]


def _are_signs(book, value):
    """Whether it is a list of signs of the book."""
    return is_list(value) and all([is_one_of(sign, book.signs) for sign in value])


def _is_chain(twos, one, other, walk):
    """Whether these signs lead from one to other, each two neighbours being one of the pairs."""
    linked = set(twos)
    if len(walk) == 0 or walk[0] != one or walk[-1] != other:
        return False
    return all([(min(step), max(step)) in linked for step in zip(walk, walk[1:])])


def _is_closed(twos, one, other, lot):
    """Whether one is among these signs, other is not, and no pair leads out of them."""
    inside = set(lot)
    if one not in inside or other in inside:
        return False
    return all([(first in inside) == (second in inside) for first, second in twos])


def shows_parting(book, sayings, side, one, other, value):
    """Whether any value is a Parting of the two signs, or None where they are not parted."""
    check_asked_two(book, sayings, side, one, other)
    if value is None:
        return parting_of(book, sayings, side, one, other) is None
    return type(value) is Parting and _is_parting(book, standing(book, sayings), side, (one, other), value)


def _is_parting(book, told, side, asked, parting):
    """Whether two signs that are asked are not joined, and are parted by this Parting."""
    lots = joined_lots(book.signs, told, side)
    mine, its = parting.mine, parting.its
    my_lot, its_lot = lot_with(lots, asked[0]), lot_with(lots, asked[1])
    if asked[1] in my_lot or not is_one_of(mine, my_lot) or not is_one_of(its, its_lot):
        return False
    if not is_one_of(parting.by, ("apart", "joined")):
        return False
    if parting.by == "apart":
        return (min(mine, its), max(mine, its)) in _twos_told(told, side, False)
    return its in lot_with(joined_lots(book.signs, told, other_side(side)), mine)


def shows_plain(book, value):
    """Whether any value is the Finest of a plain book, or a Broken of any of its breaks."""
    check_plain_book(book)
    if type(value) is Broken:
        return is_break(book, [], value.broken)
    return type(value) is Finest and isinstance(value.grid, Grid) and value == finest(book)
