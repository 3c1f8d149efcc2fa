"""What the deed lines of a desk do to its shelf, and what is answered."""

from mutesigns.books import bound_item
from mutesigns.desk_lines import DEEDS, read_line_of
from mutesigns.shelves import Shelf, book_under, check_shelf, sheet_under


def _put(shelf, name, thing):
    """Keeps the thing, behind the others; a Shelf refuses a name under which something is kept."""
    return _with_many(Shelf([*shelf.things, (name, thing)]))


def _drop(shelf, name):
    """Takes out this thing."""
    shelf.thing(name)
    return _with_many(Shelf([pair for pair in shelf.things if pair[0] != name]))


def _with_many(shelf):
    """The shelf, and how many things are kept."""
    return (shelf, str(len(shelf.things)))


def _add(shelf, name, fact):
    """The book gets this fact behind."""
    book = book_under(shelf, name)
    return (_exchanged(shelf, name, book.with_fact(fact)), str(len(book)))


def _strike(shelf, name, *numbers):
    """The book without these facts."""
    left = book_under(shelf, name).without(numbers)
    return (_exchanged(shelf, name, left), str(len(left)))


def _bound(shelf, name, side, bound):
    """Sets the most rows, or columns, of the book."""
    book = book_under(shelf, name)
    bounds = (bound, book.most_columns) if side == "row" else (book.most_rows, bound)
    return (_exchanged(shelf, name, book.bounded(*bounds)), bound_item(bound))


def _word(shelf, name, stem, ending, word):
    """Puts the word into the cell of the sheet."""
    sheet = sheet_under(shelf, name).with_word(stem, ending, word)
    return (_exchanged(shelf, name, sheet), str(len(sheet.gaps)))


def _exchanged(shelf, name, thing):
    """The shelf with this thing in the place of the one under the name."""
    return Shelf([(one, thing if one == name else kept) for one, kept in shelf.things])


DONE = {"put": _put, "drop": _drop, "add": _add, "strike": _strike, "bound": _bound, "word": _word}


def changed(shelf, line):
    """The pair of the Shelf behind a deed line, and of the answer."""
    check_shelf(shelf)
    told = read_line_of(line, DEEDS)
    first, *values = told
    deed = DONE[first]
    return deed(shelf, *values)
