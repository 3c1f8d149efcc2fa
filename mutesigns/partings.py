"""Which signs are parted by what stands."""

from mutesigns.papers import Paper
from mutesigns.sayings import other_side
from mutesigns.standing import check_asked_two, joined_lots, lot_with, standing


class Parting(Paper):
    """A sign joined to one and a sign joined to other, by which these two are parted."""

    def __init__(self, mine, its, by):
        super().__init__("parting", mine, its, by)
        self.mine = self.parts[0]
        self.its = self.parts[1]
        self.by = self.parts[2]


def parting_of(book, sayings, side, one, other):
    """The least Parting of two signs on a side, None if they are not parted there."""
    check_asked_two(book, sayings, side, one, other)
    told = standing(book, sayings)
    lots = joined_lots(book.signs, told, side)
    if other in lot_with(lots, one):
        return None
    across = joined_lots(book.signs, told, other_side(side))
    for mine in lot_with(lots, one):
        for its in lot_with(lots, other):
            if _are_said_apart(told, side, mine, its):
                return Parting(mine, its, "apart")
            if its in lot_with(across, mine):
                return Parting(mine, its, "joined")
    return None


def _are_said_apart(told, side, mine, its):
    """Whether a saying tells that the two are apart on the side."""
    two = (min(mine, its), max(mine, its))
    return any([saying.side == side and not saying.alike and (saying.one, saying.other) == two for saying in told])
