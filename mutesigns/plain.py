"""What is known of a plain book, by joins and partings alone."""

from mutesigns.books import check_book
from mutesigns.breaking import first_break
from mutesigns.checks import SIDES, check_side, check_signs
from mutesigns.errors import BadBook, Impossible
from mutesigns.papers import Denial, Paper
from mutesigns.states import finest_grid, is_forced, is_refuted, seen_of


class Finest(Paper):
    """The finest grid of a plain book."""

    def __init__(self, grid):
        super().__init__("finest", grid)
        self.grid = self.parts[0]


class Broken(Denial):
    """A break of a plain book."""

    def __init__(self, broken):
        super().__init__("broken", broken)
        self.broken = self.parts[0]


def check_plain_book(book):
    """Raises BadBook for what is no Book, or one that is not plain."""
    check_book(book)
    if not book.is_plain:
        raise BadBook("plain")


def finest(book):
    """The Finest of a plain book, or the Broken of its first break."""
    check_plain_book(book)
    board, state, parted = seen_of(book, [])
    broken = first_break(board, state, parted)
    return Finest(finest_grid(board, state)) if broken is None else Broken(broken)


def word_in(book, side, one, other):
    """Whether it is sure, never or open that two signs of a plain book are alike on a side."""
    check_plain_book(book)
    check_side(side)
    check_signs([one, other], book.signs)
    board, state, parted = seen_of(book, [])
    broken = first_break(board, state, parted)
    if broken is not None:
        raise Impossible(Broken(broken))
    asked = (SIDES.index(side), board.numbers[one], board.numbers[other], True)
    if is_forced(state, parted, asked):
        return "sure"
    return "never" if is_refuted(state, parted, asked) else "open"
