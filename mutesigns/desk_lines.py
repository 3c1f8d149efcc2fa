"""The lines that a desk is told, read item by item."""

from mutesigns.books import read_book, read_bound
from mutesigns.checks import is_one_of, is_side
from mutesigns.facts import MOST_IN_FACT, read_fact
from mutesigns.sheets import read_sheet
from mutesigns.texts import Items

DEEDS = ("put", "drop", "add", "strike", "bound", "word")
ASKS = ("names", "show", "facts", "kept", "grids", "is", "with", "bears", "slips", "stand")
KINDS = ("book", "sheet")


def _read_nothing(items):
    """Nothing stands behind the first item."""
    return ()


def _read_name(items):
    """NAME."""
    return (items.take_sign("", None),)


def _read_put(items):
    """NEW, a kind, and the text of a thing of this kind."""
    name = items.take_sign("", None)
    kind = items.take(is_one_of(items.ahead(), KINDS))
    return (name, read_book(items) if kind == "book" else read_sheet(items))


def _read_fact_of(items):
    """NAME FACT."""
    name = items.take_sign("", None)
    return (name, read_fact(items, None, MOST_IN_FACT))


def _read_strike(items):
    """NAME and one or more N."""
    told = [items.take_sign("", None), items.take_integer(0, None)]
    while items.ahead() is not None:
        told.append(items.take_integer(0, None))
    return tuple(told)


def _read_bound_of(items):
    """NAME SIDE BOUND."""
    name = items.take_sign("", None)
    side = items.take(is_side(items.ahead()))
    return (name, side, read_bound(items))


def _read_word(items):
    """NAME STEM ENDING WORD."""
    names = _read_names(items, 3)
    return (*names, items.take_signs())


def _read_with(items):
    """NAME SIDE SIGN."""
    name = items.take_sign("", None)
    side = items.take(is_side(items.ahead()))
    return (name, side, items.take_sign("", None))


def _read_stand(items):
    """NAME OTHER STEM ENDING."""
    return _read_names(items, 4)


def _read_names(items, many):
    """So many names."""
    names = []
    for _ in range(many):
        names.append(items.take_sign("", None))
    return tuple(names)


READERS = {
    "put": _read_put, "drop": _read_name, "add": _read_fact_of, "strike": _read_strike, "bound": _read_bound_of,
    "word": _read_word, "names": _read_nothing, "show": _read_name, "facts": _read_name, "kept": _read_name,
    "grids": _read_name, "is": _read_fact_of, "with": _read_with, "bears": _read_fact_of, "slips": _read_name,
    "stand": _read_stand,
}


def read_line(line):
    """The first item of a line, and what the others stand for."""
    return read_line_of(line, DEEDS + ASKS)


def read_line_of(line, firsts):
    """The same of a line with one of these first items; any other one cannot stand."""
    items = Items(line)
    first = items.take(is_one_of(items.ahead(), firsts))
    reader = READERS[first]
    told = reader(items)
    items.end()
    return (first, *told)


def is_deed(line):
    """Whether any value is a string that begins as a deed line does, whatever follows."""
    return isinstance(line, str) and line.split(" ")[0] in DEEDS
