"""Which facts of a book can be slips: without them some grid keeps it."""

from mutesigns.books import check_book
from mutesigns.lot_searches import LotSearch, check_lots_sought, lot_grid, refused_lots
from mutesigns.lots import all_lots, are_apart, lot_book, lots_fewer, none_to_spare, rest_of
from mutesigns.papers import Paper
from mutesigns.searches import refusing_tree


class Slips(Paper):
    """A striking with fewest numbers, a grid that keeps the other facts, and clashes that show that no fewer do."""

    def __init__(self, numbers, grid, clashes):
        super().__init__("slips", numbers, grid, clashes)
        self.numbers = self.parts[0]
        self.grid = self.parts[1]
        self.clashes = self.parts[2]


def slips(book):
    """The Slips of the first striking."""
    check_book(book)
    check_lots_sought(book)
    search = LotSearch(book, [])
    refused = refused_lots(search)
    numbers = _strikings(book, refused)[0]
    clashes = [(lot, refusing_tree(lot_book(book, lot), []))
               for lot in _clashes_for(none_to_spare(refused), lots_fewer(len(book), len(numbers)))]
    return Slips(numbers, lot_grid(search, rest_of(numbers, len(book))), clashes)


def all_slips(book):
    """All strikings with none to spare, in order."""
    check_book(book)
    check_lots_sought(book)
    return tuple(none_to_spare(_strikings(book, refused_lots(LotSearch(book, [])))))


def greatest_lots(book):
    """The lots of all facts that the strikings with none to spare leave, in order."""
    left = [rest_of(lot, len(book)) for lot in all_slips(book)]
    return tuple([lot for lot in all_lots(len(book)) if lot in left])


def _strikings(book, refused):
    """All strikings, in order, where these lots clash: what they leave does not clash."""
    clashing = set(refused)
    found = []
    for lot in all_lots(len(book)):
        if rest_of(lot, len(book)) not in clashing:
            found.append(lot)
    return found


def _clashes_for(clashes, lots):
    """Some of the clashes, so many that for each of the lots one has no number of it: the most telling first."""
    found = []
    waiting = lots
    while waiting:
        many = [len([lot for lot in waiting if are_apart(lot, clash)]) for clash in clashes]
        best = clashes[many.index(max(many))]
        found.append(best)
        waiting = [lot for lot in waiting if not are_apart(lot, best)]
    return found
