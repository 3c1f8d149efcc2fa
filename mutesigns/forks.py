"""Refusing trees grown fork by fork, where no grid is left."""

from mutesigns.breaking import first_break
from mutesigns.checks import SIDES
from mutesigns.states import has_bit, is_forced, is_refuted, parted_signs, partings_in, state_with


def grown_rows(board, state, at):
    """The rows of a refusing tree for what stands, the first one with this number; no grid must be left."""
    parted = partings_in(state)
    broken = first_break(board, state, parted)
    if broken is not None:
        return [broken]
    side, one, other, _ = _asked_next(board, state, parted)
    alike = grown_rows(board, state_with(state, (side, one, other, True)), at + 1)
    behind = at + 1 + len(alike)
    apart = grown_rows(board, state_with(state, (side, one, other, False)), behind)
    return [(SIDES[side], board.signs[one], board.signs[other], at + 1, behind), *alike, *apart]


def _asked_next(board, state, parted):
    """The first saying of a choice with the fewest ways: so most forks have a branch that soon breaks."""
    choices = [*_fact_choices(board, state, parted), *_bound_choices(board, state, parted)]
    return min(choices, key=len)[0]


def _fact_choices(board, state, parted):
    """For each fact that may still fail its sayings that are not refuted: one of them must hold."""
    waiting = [fact for fact in board.facts if not any([is_forced(state, parted, told) for told in fact])]
    return [[told for told in fact if not is_refuted(state, parted, told)] for fact in waiting]


def _bound_choices(board, state, parted):
    """For each bound and each sign not yet in one line with one of the most signs parted there: with which it may be.

    Where there is room for one line more it may be with none of them: a choice has one way more then.
    """
    choices = []
    for side, bound in enumerate(board.bounds):
        if bound is not None:
            heads = _most_parted(parted[side])
            room = [None] if len(heads) < bound else []
            for sign, lot in enumerate(state.lots[side]):
                if not any([has_bit(lot, head) for head in heads]):
                    mates = [head for head in heads if not has_bit(parted[side][sign], head)]
                    choices.append([(side, min(sign, mate), max(sign, mate), True) for mate in mates] + room)
    return choices


def _most_parted(parted):
    """The least tuple of as many signs as can be, each two of them parted."""
    found = ()
    longer = parted_signs(parted, 1, -1)
    while longer is not None:
        found = longer
        longer = parted_signs(parted, len(found) + 1, -1)
    return found
