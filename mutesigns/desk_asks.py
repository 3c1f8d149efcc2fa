"""What the ask lines of a desk answer."""

from mutesigns.answers import answer
from mutesigns.bearing import Bears, bearing
from mutesigns.books import Book
from mutesigns.checks import check_signs
from mutesigns.desk_lines import ASKS, read_line_of
from mutesigns.listing import many_grids
from mutesigns.possible import grid_of
from mutesigns.sheetgaps import words_in
from mutesigns.sheets import word_item
from mutesigns.shelves import book_under, check_shelf, sheet_under
from mutesigns.slips import slips
from mutesigns.suregrid import sure_grid


def _names(shelf):
    """The names of the things."""
    return _told_or_none(shelf.names)


def _told_or_none(items):
    """The items with blanks between, `-` for none."""
    return " ".join(items) if items else "-"


def _show(shelf, name):
    """The kind and the text of the thing."""
    thing = shelf.thing(name)
    return ("book " if isinstance(thing, Book) else "sheet ") + str(thing)


def _facts(shelf, name):
    """How many facts the book has."""
    return str(len(book_under(shelf, name)))


def _kept(shelf, name):
    """Whether some grid keeps the book."""
    return "yes" if grid_of(book_under(shelf, name)) else "no"


def _grids(shelf, name):
    """How many grids keep the book."""
    return str(many_grids(book_under(shelf, name)))


def _is(shelf, name, fact):
    """Whether the fact is sure, never or open."""
    return answer(book_under(shelf, name), fact).kind


def _with(shelf, name, side, sign):
    """The signs that are surely alike with this one."""
    book = book_under(shelf, name)
    check_signs([sign], book.signs)
    return " ".join([line for line in sure_grid(book).lots(side) if sign in line][0])


def _bears(shelf, name, fact):
    """The numbers of the facts that bear the fact."""
    found = bearing(book_under(shelf, name), fact)
    return _numbers(found) if isinstance(found, Bears) else "no"


def _slips(shelf, name):
    """The numbers of the facts that can be slips."""
    return _numbers(slips(book_under(shelf, name)))


def _numbers(paper):
    """The numbers that a paper tells, `-` for none."""
    return _told_or_none([str(number) for number in paper.numbers])


def _stand(shelf, name, other, stem, ending):
    """The words that can stand in the cell of the sheet."""
    for one in (name, other):
        shelf.thing(one)
    words = words_in(book_under(shelf, name), sheet_under(shelf, other), stem, ending)
    return " / ".join([word_item(["?" if sign is None else sign for sign in word]) for word in words])


ANSWERED = {
    "names": _names, "show": _show, "facts": _facts, "kept": _kept, "grids": _grids, "is": _is, "with": _with,
    "bears": _bears, "slips": _slips, "stand": _stand,
}


def answer_of(shelf, line):
    """The answer to an ask line."""
    check_shelf(shelf)
    told = read_line_of(line, ASKS)
    first, *values = told
    asked = ANSWERED[first]
    return asked(shelf, *values)
