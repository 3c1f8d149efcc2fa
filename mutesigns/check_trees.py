"""Whether refusing trees, and papers of books that are kept or not, are right."""

from mutesigns.books import check_book
from mutesigns.breaking import are_ascending, is_break_in
from mutesigns.checks import SIDES, is_list, is_side, is_within
from mutesigns.grids import Grid
from mutesigns.papers import fixed
from mutesigns.possible import Kept, NoGrid
from mutesigns.standing import check_standing
from mutesigns.states import Board, partings_in, state_of, state_with


def is_tree(book, sayings, value):
    """Whether any value is a refusing tree of the book with the sayings standing besides."""
    check_standing(book, sayings)
    board = Board(book)
    return is_tree_from(board, state_of(board, book, sayings), fixed(value))


def is_tree_from(board, state, rows):
    """Whether a value, lists in it told as tuples, is a refusing tree for what stands."""
    if not isinstance(rows, tuple) or len(rows) == 0:
        return False
    leaves = leaves_of(board, state, rows)
    return leaves is not None and all([is_break_in(board, there, partings_in(there), row) for row, there in leaves])


def are_trees(book, lots, trees):
    """Whether any value is a list of refusing trees of the book, one for each list of sayings standing besides."""
    if not is_list(trees) or len(trees) != len(lots):
        return False
    return all([is_tree(book, sayings, tree) for sayings, tree in zip(lots, trees)])


def leaves_of(board, state, rows):
    """The pairs of each row that is no fork and what stands there; None if forks do not name each row behind once."""
    states = {0: state}
    leaves = []
    for number, row in enumerate(rows):
        if number not in states:
            return None
        if not is_fork(board, row):
            leaves.append((row, states[number]))
            continue
        side, one, other = SIDES.index(row[0]), board.numbers[row[1]], board.numbers[row[2]]
        for named, is_alike in ((row[3], True), (row[4], False)):
            if not is_within(named, number + 1, len(rows) - 1) or named in states:
                return None
            states[named] = state_with(states[number], (side, one, other, is_alike))
    return leaves


def is_fork(board, row):
    """Whether a row asks two signs of the book, one less than other, on a side, and tells two things more."""
    return isinstance(row, tuple) and len(row) == 5 and is_side(row[0]) and are_ascending(board, row[1:3])


def is_grid_keeping(book, sayings, value):
    """Whether any value is a Grid of the signs of the book that keeps it, and in which the sayings hold."""
    if not isinstance(value, Grid) or value.signs != book.signs:
        return False
    return value.keeps(book) and all([value.holds(saying) for saying in sayings])


def shows_grid(book, value):
    """Whether any value is a Kept of any grid that keeps the book, or a NoGrid of any refusing tree."""
    check_book(book)
    if type(value) is Kept:
        return is_grid_keeping(book, [], value.grid)
    return type(value) is NoGrid and is_tree(book, [], value.tree)
