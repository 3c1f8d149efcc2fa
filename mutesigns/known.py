"""The fewest signs that, known, read all signs of a grid."""

from mutesigns.checks import SIDES
from mutesigns.grids import check_grid
from mutesigns.lots import are_apart, sized
from mutesigns.papers import Paper
from mutesigns.readings import first_unread


class FewestKnown(Paper):
    """As few signs as can be that are enough for a grid, and as many lines, no two of which meet."""

    def __init__(self, signs, lines):
        super().__init__("fewestknown", signs, lines)
        self.signs = self.parts[0]
        self.lines = self.parts[1]


def fewest_known(grid):
    """The FewestKnown of a grid."""
    signs = all_fewest_known(grid)[0]
    lines = _lines_apart([(side, line) for side in SIDES for line in grid.lots(side)], len(signs))
    return FewestKnown(signs, [(side, line[0]) for side, line in lines])


def all_fewest_known(grid):
    """All lots of signs that are enough for a grid, as few as can be, each ascending; these ascend."""
    check_grid(grid)
    size = 1
    found = _enough_sized(grid, size)
    while not found:
        size += 1
        found = _enough_sized(grid, size)
    return tuple(found)


def _enough_sized(grid, size):
    """All lots of so many signs that are enough for a grid."""
    return [lot for lot in sized(grid.signs, size) if first_unread(grid, lot) is None]


def _lines_apart(lines, many):
    """The first so many lines, told by a side and its signs, no two of which meet; None if there are not so many."""
    if many == 0:
        return []
    for at, line in enumerate(lines):
        behind = _lines_apart([other for other in lines[at + 1:] if are_apart(line[1], other[1])], many - 1)
        if behind is not None:
            return [line, *behind]
    return None
