"""Whether papers of ties, of their sides and of signs left out are right."""

from mutesigns.bars import Claw, Diamond, LeftOut, Ring, are_free, is_round, mates_of, ties_of_fewer
from mutesigns.beside import ascending, check_ties, ties_of
from mutesigns.checks import is_list, is_one_of
from mutesigns.grids import Grid
from mutesigns.hangings import do_meet, lot_hanging
from mutesigns.lines import Laid, Loose, OneSide, TwoSides, check_sides, many_turns


def shows_laid(ties, value):
    """Whether any value is a Laid of a grid that has the ties, or a right bar."""
    check_ties(ties)
    if type(value) is Laid:
        return _has(value.grid, ties)
    return _is_bar(ties, value)


def _has(grid, ties):
    """Whether any value is a grid that has the ties."""
    return isinstance(grid, Grid) and ties_of(grid) == ties


def _is_bar(ties, value):
    """Whether any value is a right bar."""
    mates = mates_of(ties)
    if type(value) is Claw:
        return _are_signs(ties, [value.sign], 1) and _are_signs(ties, value.others, 3) and _is_claw(mates, value)
    if type(value) is Diamond:
        are_two = _are_signs(ties, [value.one, value.other], 2)
        return are_two and _are_signs(ties, value.tips, 2) and _is_diamond(mates, value)
    if type(value) is Ring:
        return is_list(value.signs) and _are_signs(ties, value.signs, len(value.signs)) and is_round(mates, value.signs)
    return False


def _are_signs(ties, value, many):
    """Whether it is a list of so many unlike signs of the ties."""
    if not is_list(value) or len(value) != many or not all([is_one_of(sign, ties.signs) for sign in value]):
        return False
    return len(set(value)) == many


def _is_claw(mates, claw):
    """Whether the sign is beside the three others, no two of which are beside."""
    return all([other in mates[claw.sign] for other in claw.others]) and are_free(mates, claw.others)


def _is_diamond(mates, diamond):
    """Whether the two are beside, both beside the tips, which are not."""
    if diamond.other not in mates[diamond.one] or not are_free(mates, diamond.tips):
        return False
    return all([tip in mates[one] for one in (diamond.one, diamond.other) for tip in diamond.tips])


def shows_sides(ties, tie, other, value):
    """Whether any value is a right OneSide, TwoSides or Loose of two ties."""
    check_sides(ties, tie, other)
    first, last = ascending(tie), ascending(other)
    if type(value) is OneSide:
        return _is_walk(ties, first, last, value.walk) and many_turns(ties, value.walk) & 1 == 0
    if type(value) is TwoSides:
        return _is_walk(ties, first, last, value.walk) and many_turns(ties, value.walk) & 1 == 1
    if type(value) is not Loose or not is_list(value.lot) or not all([isinstance(sign, str) for sign in value.lot]):
        return False
    lot = lot_hanging(ties, first[0])
    return tuple(value.lot) == lot and last[0] not in lot


def _is_walk(ties, first, last, walk):
    """Whether these are ties, ascending pairs, from the first to the last, each meeting the next.

    If the first is the last, too, the walk is this one tie: no way round leads back to it.
    """
    if not is_list(walk) or len(walk) == 0 or not all([_is_pair(ties, pair) for pair in walk]):
        return False
    if walk[0] != first or walk[-1] != last or (first == last and len(walk) > 1):
        return False
    return all([do_meet(one, other) for one, other in zip(walk, walk[1:])])


def _is_pair(ties, value):
    """Whether it is a tie, told as an ascending pair."""
    return isinstance(value, tuple) and all([isinstance(sign, str) for sign in value]) and value in ties.pairs


def shows_left_out(ties, value):
    """Whether any value is a right LeftOut."""
    check_ties(ties)
    if type(value) is not LeftOut or not is_list(value.signs) or not is_list(value.bars):
        return False
    signs = value.signs
    if not _are_signs(ties, signs, len(signs)) or list(signs) != sorted(signs) or len(signs) == len(ties.signs):
        return False
    fewer = ties_of_fewer(ties, len(signs))
    if not _has(value.grid, ties.without(signs)) or len(value.bars) != len(fewer):
        return False
    return all([_is_bar(left, bar) for left, bar in zip(fewer, value.bars)])
