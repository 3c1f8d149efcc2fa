"""Which grids have some ties, and on which sides the ties are."""

from mutesigns.bars import bar_of
from mutesigns.beside import ascending, check_ties, ties_of
from mutesigns.checks import check_signs, is_list
from mutesigns.errors import BadTies, Impossible
from mutesigns.grids import Grid, check_grid
from mutesigns.hangings import do_meet, do_turn, grid_having, hanging_lots, lot_hanging
from mutesigns.papers import Denial, Paper

BEYOND = 8


class Laid(Paper):
    """A grid that has the ties."""

    def __init__(self, grid):
        super().__init__("laid", grid)
        self.grid = self.parts[0]


class OneSide(Paper):
    """Two ties are on one side: a walk from one to the other turns an even number of times."""

    def __init__(self, walk):
        super().__init__("oneside", walk)
        self.walk = self.parts[0]


class TwoSides(Denial):
    """Two ties are on unlike sides: a walk from one to the other turns an odd number of times."""

    def __init__(self, walk):
        super().__init__("twosides", walk)
        self.walk = self.parts[0]


class Loose(Paper):
    """The lot that hangs together with one tie; the other one has no sign of it."""

    def __init__(self, lot):
        super().__init__("loose", lot)
        self.lot = self.parts[0]


def hanging(ties):
    """The lots that hang together, ascending tuples, ascending."""
    check_ties(ties)
    return hanging_lots(ties)


def laid(ties):
    """The Laid of a grid that has the ties, or a bar."""
    check_ties(ties)
    bar = bar_of(ties)
    return Laid(grid_having(ties)) if bar is None else bar


def all_laid(ties):
    """All grids that have the ties, ascending by their rows, then by their columns."""
    check_ties(ties)
    if bar_of(ties) is not None:
        return ()
    grids = [grid_having(ties)]
    for lot in _lots_tied(ties):
        grids = grids + [_crossed_in(grid, lot) for grid in grids]
    order = sorted([(grid.rows, grid.columns) for grid in grids])
    return tuple([Grid(ties.signs, rows, columns) for rows, columns in order])


def many_laid(ties):
    """How many grids have the ties."""
    check_ties(ties)
    return 1 << len(_lots_tied(ties)) if bar_of(ties) is None else 0


def _lots_tied(ties):
    """The lots of two or more signs that hang together."""
    return [lot for lot in hanging_lots(ties) if len(lot) > 1]


def lot_crossed(grid, sign):
    """The Grid with rows and columns exchanged in the lot that hangs together with this sign in its ties."""
    check_grid(grid)
    check_signs([sign], grid.signs)
    return _crossed_in(grid, lot_hanging(ties_of(grid), sign))


def _crossed_in(grid, lot):
    """The Grid with rows and columns exchanged in a lot that shares none of them with the other signs."""
    places = []
    for sign in grid.signs:
        row, column = grid.place(sign)
        places.append((column + BEYOND, row + BEYOND) if sign in lot else (row, column))
    return Grid.of(grid.signs, places)


def sides(ties, tie, other):
    """The OneSide, the TwoSides or the Loose of two ties."""
    check_sides(ties, tie, other)
    bar = bar_of(ties)
    if bar is not None:
        raise Impossible(bar)
    first, last = ascending(tie), ascending(other)
    walk = _walk_to(ties, first, last)
    if walk is None:
        return Loose(lot_hanging(ties, first[0]))
    return OneSide(walk) if many_turns(ties, walk) & 1 == 0 else TwoSides(walk)


def check_sides(ties, tie, other):
    """Raises the errors of two ties that are asked for their sides, but Impossible."""
    check_ties(ties)
    if not _is_tie(ties, tie):
        raise BadTies("tie")
    if not _is_tie(ties, other):
        raise BadTies("other")


def _is_tie(ties, value):
    """Whether it is a tie of these, either way about."""
    if not is_list(value) or len(value) != 2 or not all([isinstance(sign, str) for sign in value]):
        return False
    return ascending(value) in ties.pairs


def many_turns(ties, walk):
    """How many steps of a walk, each from a tie to one that it meets, have ends that are not beside."""
    return len([step for step in zip(walk, walk[1:]) if do_turn(ties, *step)])


def _walk_to(ties, first, last):
    """A shortest walk of ties from the first to the last, each meeting the next; None if there is none."""
    walks = {first: (first,)}
    edge = [first]
    while edge and last not in walks:
        reached = []
        for ahead in edge:
            for tie in ties.pairs:
                if tie not in walks and do_meet(ahead, tie):
                    walks[tie] = (*walks[ahead], tie)
                    reached.append(tie)
        edge = reached
    return walks.get(last)
