"""The fewest and the most rows and columns of the grids that keep a book, and their least shapes."""

from mutesigns.books import check_book
from mutesigns.checks import check_side
from mutesigns.listed import grid_listed
from mutesigns.papers import Paper
from mutesigns.possible import listed_kept
from mutesigns.searches import refusing_tree
from mutesigns.shapes import shapes_in
from mutesigns.tightened import crowds, fewer_book, shape_books


class Fewest(Paper):
    """A grid with as few rows, or columns, as any, and a refusing tree of the book with at most one fewer."""

    def __init__(self, grid, tree):
        super().__init__("fewest", grid, tree)
        self.grid = self.parts[0]
        self.tree = self.parts[1]


class Most(Paper):
    """A grid with as many rows, or columns, as any, and refusing trees for each tuple of signs out of one more."""

    def __init__(self, grid, trees):
        super().__init__("most", grid, trees)
        self.grid = self.parts[0]
        self.trees = self.parts[1]


class Shapes(Paper):
    """For each least shape a grid, and refusing trees for what lies below, between and beside them."""

    def __init__(self, grids, trees):
        super().__init__("shapes", grids, trees)
        self.grids = self.parts[0]
        self.trees = self.parts[1]


def fewest_of(book, side):
    """The Fewest of a side."""
    check_book(book)
    check_side(side)
    grid = _grid_by(listed_kept(book, None), side, True)
    return Fewest(grid, _tree_of(fewer_book(book, side, grid)))


def most_of(book, side):
    """The Most of a side."""
    check_book(book)
    check_side(side)
    grid = _grid_by(listed_kept(book, None), side, False)
    return Most(grid, [refusing_tree(book, sayings) for sayings in crowds(side, grid)])


def least_shapes(book):
    """The Shapes."""
    check_book(book)
    listed = listed_kept(book, None)
    shapes = shapes_in(listed)
    found = [grid_listed(listed, listed.masks[shapes.index(shape)]) for shape in _least_of(sorted(set(shapes)))]
    return Shapes(found, [_tree_of(tight) for tight in shape_books(book, found)])


def _grid_by(listed, side, is_fewest):
    """The first grid listed with the fewest, or the most, rows or columns."""
    many = [shape[0 if side == "row" else 1] for shape in shapes_in(listed)]
    return grid_listed(listed, listed.masks[many.index(min(many) if is_fewest else max(many))])


def _tree_of(tight):
    """A refusing tree of a book, None for None."""
    return None if tight is None else refusing_tree(tight, [])


def _least_of(shapes):
    """Of ascending shapes those such that none ahead has no more columns."""
    least = []
    for shape in shapes:
        if not least or shape[1] < least[-1][1]:
            least.append(shape)
    return least
