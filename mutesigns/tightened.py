"""Books with lesser bounds, and signs too many for them, by which trees show what grids cannot be."""

from mutesigns.lots import sized
from mutesigns.sayings import Saying, twos_of


def many_lines(grid, side):
    """How many rows, or columns, a grid has."""
    return grid.many_rows if side == "row" else grid.many_columns


def fewer_book(book, side, grid):
    """The book with at most one row, or column, fewer than the grid has, None if that is none."""
    if side == "row":
        return _bounded(book, grid.many_rows - 1, book.most_columns)
    return _bounded(book, book.most_rows, grid.many_columns - 1)


def shape_books(book, grids):
    """For grids by ascending rows the books with fewer rows than the first, between each two, with fewer columns."""
    between = [_bounded(book, behind.many_rows - 1, ahead.many_columns - 1) for ahead, behind in zip(grids, grids[1:])]
    return [fewer_book(book, "row", grids[0]), *between, fewer_book(book, "column", grids[-1])]


def _bounded(book, most_rows, most_columns):
    """The book with these bounds, None if one of them is 0."""
    return None if 0 in (most_rows, most_columns) else book.bounded(most_rows, most_columns)


def crowds(side, grid):
    """For each ascending tuple of signs, one more than the grid has rows or columns, that each two are apart."""
    lots = sized(grid.signs, many_lines(grid, side) + 1)
    return [[Saying(side, one, other, False) for one, other in twos_of(lot)] for lot in lots]
