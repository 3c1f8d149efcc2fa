"""Bars: by what no grid has some ties."""

from mutesigns.beside import ascending, check_ties
from mutesigns.hangings import grid_having
from mutesigns.lots import sized
from mutesigns.papers import Denial, Paper

RING_SIZES = (5, 7)


class Claw(Denial):
    """A sign beside three others, no two of which are beside."""

    def __init__(self, sign, others):
        super().__init__("claw", sign, others)
        self.sign = self.parts[0]
        self.others = self.parts[1]


class Diamond(Denial):
    """Two signs that are beside, both beside two others, its tips, which are not."""

    def __init__(self, one, other, tips):
        super().__init__("diamond", one, other, tips)
        self.one = self.parts[0]
        self.other = self.parts[1]
        self.tips = self.parts[2]


class Ring(Denial):
    """Five or seven signs, as they go round, each beside the next and no other."""

    def __init__(self, signs):
        super().__init__("ring", signs)
        self.signs = self.parts[0]


class LeftOut(Paper):
    """Signs, as few as can be, without which a grid has the ties of the others; bars for all lots of one sign fewer."""

    def __init__(self, signs, grid, bars):
        super().__init__("leftout", signs, grid, bars)
        self.signs = self.parts[0]
        self.grid = self.parts[1]
        self.bars = self.parts[2]


def bar_of(ties):
    """A bar of the ties, None if there is none."""
    check_ties(ties)
    mates = mates_of(ties)
    bar = _claw_in(mates)
    if bar is None:
        bar = _diamond_in(ties, mates)
    if bar is None:
        bar = _ring_in(mates)
    return bar


def mates_of(ties):
    """For each sign the ascending list of those beside it."""
    return {sign: [other for other in ties.signs if ascending((sign, other)) in ties.pairs] for sign in ties.signs}


def are_free(mates, signs):
    """Whether no two of the signs are beside."""
    return not any([other in mates[one] for one in signs for other in signs])


def _claw_in(mates):
    """The first Claw, None if there is none."""
    for sign in mates:
        for others in sized(mates[sign], 3):
            if are_free(mates, others):
                return Claw(sign, others)
    return None


def _diamond_in(ties, mates):
    """The first Diamond, None if there is none."""
    for one, other in ties.pairs:
        for tips in sized([sign for sign in mates[one] if sign in mates[other]], 2):
            if are_free(mates, tips):
                return Diamond(one, other, tips)
    return None


def _ring_in(mates):
    """The first Ring, None if there is none."""
    for size in RING_SIZES:
        for signs in sized(list(mates), size):
            walk = _walk_round(mates, signs)
            if is_round(mates, walk):
                return Ring(walk)
    return None


def _walk_round(mates, signs):
    """The signs in the order in which a walk from the first one comes to them, always to the next one not yet met."""
    walk = [signs[0]]
    ahead = [signs[0]]
    while ahead:
        ahead = [sign for sign in signs if sign in mates[walk[-1]] and sign not in walk][:1]
        walk = walk + ahead
    return walk


def is_round(mates, walk):
    """Whether these unlike signs are five or seven, each beside the next, the last beside the first, no other two."""
    if len(walk) not in RING_SIZES:
        return False
    return all([sorted([walk[at - 1], walk[(at + 1) - len(walk)]]) == [sign for sign in mates[walk[at]] if sign in walk]
                for at in range(len(walk))])


def left_out(ties):
    """A LeftOut."""
    check_ties(ties)
    for size in range(len(ties.signs)):
        for signs in sized(ties.signs, size):
            left = ties.without(signs)
            if bar_of(left) is None:
                return LeftOut(signs, grid_having(left), [bar_of(one) for one in ties_of_fewer(ties, size)])
    return None


def ties_of_fewer(ties, size):
    """For each lot of one sign fewer than size, ascending, the ties without it; none if size is 0."""
    return [] if size == 0 else [ties.without(signs) for signs in sized(ties.signs, size - 1)]
