"""Which letters a sign can have, where values of others are told."""

from mutesigns.books import check_book
from mutesigns.checks import check_side, check_signs, is_word
from mutesigns.errors import BadValue, BadWord, Impossible, Twice
from mutesigns.namings import Barred
from mutesigns.papers import Paper
from mutesigns.sayings import Saying
from mutesigns.searches import Search, check_sought, grid_where, refusing_tree
from mutesigns.values import Values, letter_on


class Letters(Paper):
    """For each letter on a side, and for a new one, a grid in which a sign has it, or a tree if there is none."""

    def __init__(self, rows, new):
        super().__init__("letters", rows, new)
        self.rows = self.parts[0]
        self.new = self.parts[1]


def letters_for(book, values, side, sign):
    """The Letters of a sign without a value."""
    check_lettered(book, values, side, sign)
    search = _search_fitted(book, values)
    rows = [(letter, _grid_or_tree(search, sayings)) for letter, sayings in letters_told(values, side, sign)]
    return Letters(rows, _grid_or_tree(search, new_told(values, side, sign)))


def check_lettered(book, values, side, sign):
    """Raises the errors of a sign that is asked for its letters, but TooMany and Impossible."""
    _check_values(book, values)
    check_side(side)
    check_signs([sign], book.signs)
    if sign in values.signs:
        raise Twice(sign)


def _check_values(book, values):
    """Raises BadBook, BadValue for what is none, NoSign for the first sign with a value that the book lacks."""
    check_book(book)
    if not isinstance(values, Values):
        raise BadValue("values")
    check_signs(values.signs, book.signs)


def _search_fitted(book, values):
    """The search of a book; raises TooMany, Impossible if the values fit no grid that keeps it."""
    check_sought(book)
    search = Search(book)
    if grid_where(search, values.sayings()) is None:
        raise Impossible(Barred(refusing_tree(book, values.sayings())))
    return search


def letters_told(values, side, sign):
    """For each letter told on the side, ascending, what stands if it is that of the sign.

    These are what the values tell, and that the sign is alike with the first one that has the letter.
    """
    firsts = {}
    for one in values.signs:
        firsts.setdefault(letter_on(side, values.value(one)), one)
    return [(letter, [*values.sayings(), Saying(side, sign, firsts[letter])]) for letter in sorted(firsts)]


def new_told(values, side, sign):
    """What stands if the letter of the sign on the side is a new one: what the values tell, and that it is apart."""
    return [*values.sayings(), *[Saying(side, sign, one, False) for one in values.signs]]


def _grid_or_tree(search, sayings):
    """A Grid that keeps the book and in which the sayings hold; if there is none, a refusing tree."""
    grid = grid_where(search, sayings)
    return refusing_tree(search.book, sayings) if grid is None else grid


def sounds_of(book, values, word):
    """For each sign of the word the letters that it can have, pairs of those on the rows and on the columns."""
    _check_values(book, values)
    if not is_word(word):
        raise BadWord("word")
    check_signs(word, book.signs)
    search = _search_fitted(book, values)
    return tuple([tuple([_letters_on(search, values, side, sign) for side in ("row", "column")]) for sign in word])


def _letters_on(search, values, side, sign):
    """The letters that a sign can have on a side, ascending, with None behind them if a new one can be."""
    if sign in values.signs:
        return (letter_on(side, values.value(sign)),)
    told = [*letters_told(values, side, sign), (None, new_told(values, side, sign))]
    return tuple([letter for letter, sayings in told if grid_where(search, sayings) is not None])
