"""How many grids keep a book, by their shapes and by their parts."""

from mutesigns.books import check_book
from mutesigns.checks import check_signs
from mutesigns.grids import check_grid
from mutesigns.listing import listed_grids
from mutesigns.shapes import shapes_in


def many_by(book):
    """For each shape that a grid that keeps the book has (rows, columns, how many have it), ascending."""
    check_book(book)
    many = {}
    for shape in shapes_in(listed_grids(book)):
        many[shape] = many.get(shape, 0) + 1
    return tuple([(rows, columns, many[(rows, columns)]) for rows, columns in sorted(many)])


def many_on(book, grid):
    """How many grids that keep the book have this grid as their part on its signs."""
    check_book(book)
    check_grid(grid)
    check_signs(grid.signs, book.signs)
    listed = listed_grids(book)
    alike, apart = listed.bits_for(grid.sayings())
    return len([mask for mask in listed.masks if mask & (alike | apart) == alike])
