"""Whether papers of fewest and most rows and columns, and of least shapes, are right."""

from mutesigns.books import check_book
from mutesigns.check_trees import are_trees, is_grid_keeping, is_tree
from mutesigns.checks import check_side, is_list
from mutesigns.extremes import Fewest, Most, Shapes
from mutesigns.tightened import crowds, fewer_book, shape_books


def shows_fewest(book, side, value):
    """Whether any value is a right Fewest of a side."""
    check_book(book)
    check_side(side)
    if type(value) is not Fewest or not is_grid_keeping(book, [], value.grid):
        return False
    return _is_tree_of(fewer_book(book, side, value.grid), value.tree)


def _is_tree_of(tight, tree):
    """Whether it is a refusing tree of a book, None for None."""
    return tree is None if tight is None else is_tree(tight, [], tree)


def shows_most(book, side, value):
    """Whether any value is a right Most of a side."""
    check_book(book)
    check_side(side)
    if type(value) is not Most or not is_grid_keeping(book, [], value.grid):
        return False
    return are_trees(book, crowds(side, value.grid), value.trees)


def shows_shapes(book, value):
    """Whether any value is a right Shapes."""
    check_book(book)
    if type(value) is not Shapes or not _are_shaped(book, value.grids):
        return False
    books = shape_books(book, value.grids)
    if not is_list(value.trees) or len(value.trees) != len(books):
        return False
    return all([_is_tree_of(tight, tree) for tight, tree in zip(books, value.trees)])


def _are_shaped(book, grids):
    """Whether these are one or more grids that keep the book, ascending in rows and descending in columns."""
    if not is_list(grids) or len(grids) == 0 or not all([is_grid_keeping(book, [], grid) for grid in grids]):
        return False
    steps = list(zip(grids, grids[1:]))
    return all([one.many_rows < other.many_rows and one.many_columns > other.many_columns for one, other in steps])
