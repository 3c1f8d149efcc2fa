"""Refusing trees of books, and grids that keep them, with sayings standing besides."""

from mutesigns.searches import Search, check_sought, grid_where, tree_where
from mutesigns.standing import check_standing


def tree_with(book, sayings):
    """A refusing tree of the book with the sayings standing besides, None if there is none."""
    check_standing(book, sayings)
    check_sought(book)
    return tree_where(Search(book), sayings)


def grid_with(book, sayings):
    """A Grid that keeps the book and in which the sayings hold, None if there is none."""
    check_standing(book, sayings)
    check_sought(book)
    return grid_where(Search(book), sayings)
