"""Whether what stands breaks, and by what."""

from mutesigns.breaking import first_break, is_break_in
from mutesigns.papers import fixed
from mutesigns.standing import check_standing
from mutesigns.states import seen_of


def break_of(book, sayings):
    """The first break of what stands, None if nothing breaks."""
    check_standing(book, sayings)
    board, state, parted = seen_of(book, sayings)
    return first_break(board, state, parted)


def is_break(book, sayings, value):
    """Whether any value is a break of what stands."""
    check_standing(book, sayings)
    board, state, parted = seen_of(book, sayings)
    return is_break_in(board, state, parted, fixed(value))
