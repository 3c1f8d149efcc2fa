"""Whether sayings stand together in a book."""

from mutesigns.checks import check_many
from mutesigns.papers import Denial, Paper
from mutesigns.possible import search_kept
from mutesigns.searches import check_sought, grid_where, tree_where
from mutesigns.standing import check_standing

MOST_TOGETHER = 12


class Together(Paper):
    """A grid that keeps a book and in which sayings hold."""

    def __init__(self, grid):
        super().__init__("together", grid)
        self.grid = self.parts[0]


class Quarrel(Denial):
    """Numbers of sayings that quarrel with none to spare, a refusing tree of them, and a grid without each one."""

    def __init__(self, numbers, tree, grids):
        super().__init__("quarrel", numbers, tree, grids)
        self.numbers = self.parts[0]
        self.tree = self.parts[1]
        self.grids = self.parts[2]


def check_together(book, sayings):
    """Raises the errors of sayings of which it is asked whether they stand together, but Impossible."""
    check_standing(book, sayings)
    check_sought(book)
    check_many("sayings", len(sayings), MOST_TOGETHER)


def together(book, sayings):
    """The Together of the sayings, or the Quarrel left when those that are not needed for one are left out."""
    check_together(book, sayings)
    search = search_kept(book)
    grid = grid_where(search, sayings)
    if grid is not None:
        return Together(grid)
    numbers = list(range(len(sayings)))
    for number in range(len(sayings)):
        if grid_where(search, sayings_but(sayings, numbers, number)) is None:
            numbers = [one for one in numbers if one != number]
    tree = tree_where(search, [sayings[one] for one in numbers])
    grids = [grid_where(search, sayings_but(sayings, numbers, one)) for one in numbers]
    return Quarrel(numbers, tree, grids)


def sayings_but(sayings, numbers, number):
    """The sayings with these numbers, but the one with this number."""
    return [sayings[one] for one in numbers if one != number]
