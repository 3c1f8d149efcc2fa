"""The search for grids that keep the books of the lots of a book, in which further sayings hold."""

from mutesigns.checks import check_many
from mutesigns.listed import Listed, grid_listed
from mutesigns.lots import all_lots, lot_book
from mutesigns.possible import search_kept
from mutesigns.searches import Search, check_sought, grid_where

MOST_IN_LOTS = 8


def check_lots_sought(book):
    """Raises TooMany for a book whose lots are not sought, Impossible for one whose bounds no grid keeps."""
    check_sought(book)
    check_many("facts", len(book), MOST_IN_LOTS)
    search_kept(lot_book(book, ()))


class LotSearch:
    """A book, further sayings, and, unless the book is plain, one grid for all that break the same facts."""

    def __init__(self, book, sayings):
        self.book = book
        self.sayings = sayings
        self.listed = None if book.is_plain else Listed(lot_book(book, ()))
        self.firsts = {} if book.is_plain else _firsts_breaking(self.listed, book, sayings)


def _firsts_breaking(listed, book, sayings):
    """For each lot of facts, told by bits, that some grid breaks just these of, the first such grid.

    The grids are those listed, in which the sayings hold.
    """
    alike, apart = listed.bits_for(sayings)
    facts = [listed.bits_for(fact.sayings) for fact in book.facts]
    firsts = {}
    for mask in listed.masks:
        if mask & alike == alike and mask & apart == 0:
            broken = 0
            for number, (any_alike, any_apart) in enumerate(facts):
                if mask & any_alike == 0 and mask & any_apart == any_apart:
                    broken |= 1 << number
            firsts.setdefault(broken, mask)
    return firsts


def lot_grid(search, lot):
    """A Grid that keeps the book of the lot and in which the sayings hold, None if there is none."""
    if search.listed is None:
        return grid_where(Search(lot_book(search.book, lot)), search.sayings)
    wanted = sum([1 << number for number in lot])
    for broken, mask in search.firsts.items():
        if broken & wanted == 0:
            return grid_listed(search.listed, mask)
    return None


def refused_lots(search):
    """All lots, in order, such that no grid that keeps their book is left in which the sayings hold."""
    return [lot for lot in all_lots(len(search.book)) if lot_grid(search, lot) is None]
