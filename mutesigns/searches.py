"""The search for a grid that keeps a book, and for a refusing tree where there is none."""

from mutesigns.breaking import first_break
from mutesigns.checks import check_many
from mutesigns.forks import grown_rows
from mutesigns.grids import Grid
from mutesigns.masks import bits_told, first_mask, kept_masks, lines_in, pair_bits
from mutesigns.states import Board, finest_grid, seen_of, state_of

MOST_SOUGHT = 6


class Search:
    """A book and the bits of all grids that keep it; of a plain book none are listed, as what stands tells all."""

    def __init__(self, book):
        self.book = book
        self.board = Board(book)
        self.bits = pair_bits(len(book.signs))
        self.masks = [] if book.is_plain else kept_masks(self.board, self.bits)


def check_sought(book):
    """Raises TooMany for a book that is not plain with more signs than are sought."""
    if not book.is_plain:
        check_many("signs", len(book.signs), MOST_SOUGHT)


def grid_where(search, sayings):
    """A Grid that keeps the book and in which the sayings hold, None if there is none."""
    if search.book.is_plain:
        return _finest_where(search, sayings)
    told = [search.board.by_numbers(saying) for saying in sayings]
    alike, apart = bits_told(search.bits, told)
    mask = first_mask(search.masks, alike, apart)
    if mask is None:
        return None
    columns, rows = [lines_in(mask, search.bits, side, len(search.board.signs)) for side in range(2)]
    return Grid(search.board.signs, rows, columns)


def _finest_where(search, sayings):
    """The grid in which just joined signs are alike, None if what stands breaks."""
    board, state, parted = seen_of(search.book, sayings)
    return finest_grid(board, state) if first_break(board, state, parted) is None else None


def tree_where(search, sayings):
    """A refusing tree of the book with the sayings standing besides, None if there is none."""
    if grid_where(search, sayings) is not None:
        return None
    return tuple(grown_rows(search.board, state_of(search.board, search.book, sayings), 0))
