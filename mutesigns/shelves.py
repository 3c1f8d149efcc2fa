"""Shelves: the books and sheets that a desk keeps under names."""

from mutesigns.books import Book
from mutesigns.checks import check_unlike, is_list, is_name, is_one_of
from mutesigns.errors import BadDesk, Misfit, NoName
from mutesigns.sheets import Sheet


class Shelf:
    """Books and Sheets under names, in the order in which they were put in."""

    def __init__(self, things=()):
        if not is_list(things) or not all([_is_kept(pair) for pair in things]):
            raise BadDesk("things")
        names = [name for name, thing in things]
        check_unlike(names)
        self.things = tuple([tuple(pair) for pair in things])
        self.names = tuple(names)

    def thing(self, name):
        """The Book or the Sheet under this name."""
        if not is_one_of(name, self.names):
            raise NoName(name)
        return self.things[self.names.index(name)][1]

    def __eq__(self, other):
        return isinstance(other, Shelf) and self.things == other.things


def _is_kept(value):
    """Whether it is a pair of a name and a Book or a Sheet."""
    if not is_list(value) or len(value) != 2 or not is_name(value[0]):
        return False
    return isinstance(value[1], Book) or isinstance(value[1], Sheet)


def check_shelf(shelf):
    """Raises BadDesk for what is no Shelf."""
    if not isinstance(shelf, Shelf):
        raise BadDesk("shelf")


def book_under(shelf, name):
    """The Book under this name; raises NoName, Misfit for a Sheet."""
    thing = shelf.thing(name)
    if not isinstance(thing, Book):
        raise Misfit("kinds")
    return thing


def sheet_under(shelf, name):
    """The Sheet under this name; raises NoName, Misfit for a Book."""
    thing = shelf.thing(name)
    if not isinstance(thing, Sheet):
        raise Misfit("kinds")
    return thing
