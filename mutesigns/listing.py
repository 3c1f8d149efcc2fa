"""All grids that keep a book, by their numbers."""

from mutesigns.books import check_book
from mutesigns.checks import check_many, check_signs, is_list, is_within
from mutesigns.errors import BadGrid, BadNumber, Misfit
from mutesigns.grids import Grid, check_grid
from mutesigns.listed import Listed, bits_of_grid, grid_listed
from mutesigns.searches import MOST_SOUGHT

MOST_LISTED = 400


def listed_grids(book):
    """All grids that keep a Book, by their bits; raises TooMany for one with more signs than are listed."""
    check_many("signs", len(book.signs), MOST_SOUGHT)
    return Listed(book)


def grids(book):
    """All grids that keep the book, by their numbers."""
    check_book(book)
    listed = listed_grids(book)
    check_many("grids", len(listed.masks), MOST_LISTED)
    return tuple([grid_listed(listed, mask) for mask in listed.masks])


def many_grids(book):
    """How many grids keep the book."""
    check_book(book)
    return len(listed_grids(book).masks)


def grid_at(book, number):
    """The grid with this number."""
    check_book(book)
    listed = listed_grids(book)
    if not is_within(number, 0, len(listed.masks) - 1):
        raise BadNumber("number")
    return grid_listed(listed, listed.masks[number])


def number_of(book, grid):
    """The number of the grid, None if it does not keep the book."""
    check_book(book)
    check_grid(grid)
    if grid.signs != book.signs:
        raise Misfit("signs")
    listed = listed_grids(book)
    mask = bits_of_grid(listed.board, listed.bits, grid)
    return listed.masks.index(mask) if mask in listed.masks else None


def part_of(grid, signs):
    """The part of the grid on these signs, in any order."""
    check_grid(grid)
    if not is_list(signs) or len(signs) == 0:
        raise BadGrid("signs")
    check_signs(signs, grid.signs)
    return Grid.of(signs, [grid.place(sign) for sign in signs])
