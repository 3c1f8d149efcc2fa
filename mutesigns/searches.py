"""The search for a grid that keeps a book, and for a refusing tree where there is none."""

from mutesigns.breaking import first_break
from mutesigns.checks import check_many
from mutesigns.forks import grown_rows
from mutesigns.listed import Listed, grid_listed
from mutesigns.masks import first_mask
from mutesigns.states import Board, finest_grid, seen_of, state_of

MOST_SOUGHT = 6


class Search:
    """A book and all grids that keep it; of a plain book none are listed, as what stands tells all."""

    def __init__(self, book):
        self.book = book
        self.listed = None if book.is_plain else Listed(book)


def check_sought(book):
    """Raises TooMany for a book that is not plain with more signs than are sought."""
    if not book.is_plain:
        check_many("signs", len(book.signs), MOST_SOUGHT)


def grid_where(search, sayings):
    """A Grid that keeps the book and in which the sayings hold, None if there is none."""
    if search.listed is None:
        return _finest_where(search.book, sayings)
    alike, apart = search.listed.bits_for(sayings)
    mask = first_mask(search.listed.masks, alike, apart)
    return None if mask is None else grid_listed(search.listed, mask)


def _finest_where(book, sayings):
    """The grid in which just joined signs are alike, None if what stands breaks."""
    board, state, parted = seen_of(book, sayings)
    return finest_grid(board, state) if first_break(board, state, parted) is None else None


def tree_where(search, sayings):
    """A refusing tree of the book with the sayings standing besides, None if there is none."""
    return refusing_tree(search.book, sayings) if grid_where(search, sayings) is None else None


def refusing_tree(book, sayings):
    """A refusing tree of the book with the sayings standing besides; no grid must be left."""
    board = Board(book)
    return tuple(grown_rows(board, state_of(board, book, sayings), 0))
