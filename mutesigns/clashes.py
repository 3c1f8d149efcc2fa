"""Which facts of a book clash."""

from mutesigns.books import check_book
from mutesigns.lot_searches import LotSearch, check_lots_sought, lot_grid, refused_lots
from mutesigns.lots import lot_book, none_to_spare, rest_of
from mutesigns.papers import Denial
from mutesigns.possible import Kept
from mutesigns.searches import refusing_tree


class Clash(Denial):
    """A lot that clashes with none to spare, a refusing tree of it, and for each number a grid of the others."""

    def __init__(self, numbers, tree, grids):
        super().__init__("clash", numbers, tree, grids)
        self.numbers = self.parts[0]
        self.tree = self.parts[1]
        self.grids = self.parts[2]


def clash(book):
    """The Clash of the first lot that clashes, or the Kept of a book that some grid keeps."""
    check_book(book)
    check_lots_sought(book)
    search = LotSearch(book, [])
    lots = refused_lots(search)
    if not lots:
        return Kept(lot_grid(search, rest_of((), len(book))))
    numbers = lots[0]
    grids = [lot_grid(search, lot_but(numbers, number)) for number in numbers]
    return Clash(numbers, refusing_tree(lot_book(book, numbers), []), grids)


def lot_but(lot, number):
    """The lot without this number."""
    return tuple([one for one in lot if one != number])


def all_clashes(book):
    """All lots that clash with none to spare, in order."""
    check_book(book)
    check_lots_sought(book)
    return tuple(none_to_spare(refused_lots(LotSearch(book, []))))
