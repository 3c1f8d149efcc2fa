"""By what that which stands breaks."""

from mutesigns.checks import SIDES, is_side, is_one_of, is_within
from mutesigns.states import bits_above, has_bit, is_refuted, parted_signs


def first_break(board, state, parted):
    """The first break, None if nothing breaks."""
    broken = _first_place(board, state)
    if broken is None:
        broken = _first_apart(board, state)
    if broken is None:
        broken = _first_fact(board, state, parted)
    if broken is None:
        broken = _first_many(board, parted)
    return broken


def _first_place(board, state):
    """The first break of two signs joined on both sides."""
    for one, lot in enumerate(state.lots[0]):
        other = _first_above(lot & state.lots[1][one], one)
        if other is not None:
            return ("place", board.signs[one], board.signs[other])
    return None


def _first_apart(board, state):
    """The first break of two signs joined on a side and said to be apart there."""
    for side, name in enumerate(SIDES):
        for one, lot in enumerate(state.lots[side]):
            other = _first_above(lot & state.aparts[side][one], one)
            if other is not None:
                return ("apart", name, board.signs[one], board.signs[other])
    return None


def _first_above(bits, number):
    """The first number among the bits that is greater than this one, None if there is none."""
    above = bits & bits_above(number)
    return None if above == 0 else (above & -above).bit_length() - 1


def _first_fact(board, state, parted):
    """The first break of a fact all sayings of which are refuted."""
    for number in range(len(board.facts)):
        if _is_fact_refuted(board, state, parted, number):
            return ("fact", number)
    return None


def _is_fact_refuted(board, state, parted, number):
    """Whether all sayings of the fact with this number are refuted."""
    return all([is_refuted(state, parted, told) for told in board.facts[number]])


def _first_many(board, parted):
    """The first break of more signs, each two of them parted, than a bound lets."""
    for side, name in enumerate(SIDES):
        if board.bounds[side] is not None:
            found = parted_signs(parted[side], board.bounds[side] + 1, -1)
            if found is not None:
                return ("many", name, tuple([board.signs[sign] for sign in found]))
    return None


def is_break_in(board, state, parted, value):
    """Whether a value, lists in it told as tuples, is a break."""
    if not isinstance(value, tuple) or len(value) == 0 or not isinstance(value[0], str):
        return False
    sort, parts = value[0], value[1:]
    if sort == "place":
        return _is_place(board, state, parts)
    if sort == "apart":
        return _is_apart(board, state, parts)
    if sort == "fact":
        is_number = len(parts) == 1 and is_within(parts[0], 0, len(board.facts) - 1)
        return is_number and _is_fact_refuted(board, state, parted, parts[0])
    return sort == "many" and _is_many(board, parted, parts)


def _is_place(board, state, parts):
    """Whether these are two signs joined on both sides."""
    if len(parts) != 2 or not are_ascending(board, parts):
        return False
    one, other = board.numbers[parts[0]], board.numbers[parts[1]]
    return has_bit(state.lots[0][one] & state.lots[1][one], other)


def _is_apart(board, state, parts):
    """Whether these are a side and two signs joined there, and said to be apart there."""
    if len(parts) != 3 or not is_side(parts[0]) or not are_ascending(board, parts[1:]):
        return False
    side, one, other = SIDES.index(parts[0]), board.numbers[parts[1]], board.numbers[parts[2]]
    return has_bit(state.lots[side][one] & state.aparts[side][one], other)


def _is_many(board, parted, parts):
    """Whether these are a side and one sign more than its bound lets, each two of them parted there."""
    if len(parts) != 2 or not is_side(parts[0]) or not are_ascending(board, parts[1]):
        return False
    side = SIDES.index(parts[0])
    bound = board.bounds[side]
    if bound is None or len(parts[1]) != bound + 1:
        return False
    signs = [board.numbers[sign] for sign in parts[1]]
    return all([has_bit(parted[side][one], other) for at, one in enumerate(signs) for other in signs[at + 1:]])


def are_ascending(board, value):
    """Whether it is a tuple of signs of the book that ascend."""
    if not isinstance(value, tuple) or not all([is_one_of(sign, board.numbers) for sign in value]):
        return False
    return list(value) == sorted(set(value))
