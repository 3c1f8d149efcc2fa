"""Which facts of a book bear another one."""

from mutesigns.books import check_fact_numbers
from mutesigns.facts import as_fact, contraries_of
from mutesigns.lot_searches import LotSearch, check_lots_sought, lot_grid, refused_lots
from mutesigns.lots import are_apart, lot_book, lots_fewer, none_to_spare, rest_of
from mutesigns.papers import Denial, Paper
from mutesigns.possible import search_kept
from mutesigns.searches import refusing_tree
from mutesigns.standing import check_asked


class Bears(Paper):
    """A lot that bears a fact, a refusing tree that shows it, and grids that show that no lot of fewer facts does."""

    def __init__(self, numbers, tree, grids):
        super().__init__("bears", numbers, tree, grids)
        self.numbers = self.parts[0]
        self.tree = self.parts[1]
        self.grids = self.parts[2]


class Unborne(Denial):
    """A grid that keeps a book but not a fact: so no lot of it bears the fact."""

    def __init__(self, grid):
        super().__init__("unborne", grid)
        self.grid = self.parts[0]


def bears(book, asked, numbers):
    """Whether the lot of these numbers, in any order, bears a Fact, or a Saying."""
    check_asked(book, asked)
    check_fact_numbers(book, numbers)
    return lot_grid(_search_against(book, asked), tuple(sorted(numbers))) is None


def bearing(book, asked):
    """The Bears of the first lot that bears a Fact, or a Saying; the Unborne if none does."""
    check_asked(book, asked)
    search = _search_against(book, asked)
    lots = refused_lots(search)
    if not lots:
        return Unborne(lot_grid(search, rest_of((), len(book))))
    tree = refusing_tree(lot_book(book, lots[0]), search.sayings)
    return Bears(lots[0], tree, _grids_for(search, lots_fewer(len(book), len(lots[0]))))


def all_bearing(book, asked):
    """All lots that bear a Fact, or a Saying, with none to spare, in order."""
    check_asked(book, asked)
    return tuple(none_to_spare(refused_lots(_search_against(book, asked))))


def _search_against(book, asked):
    """The search over the lots of a book with the fact failing; raises what point 10 tells, Impossible at last."""
    check_lots_sought(book)
    search_kept(book)
    return LotSearch(book, contraries_of(as_fact(asked)))


def _grids_for(search, lots):
    """Grids found by the search, so many that of each lot some of them breaks no fact."""
    grids = []
    broken = []
    for lot in lots:
        if not any([are_apart(lot, one) for one in broken]):
            grids.append(lot_grid(search, lot))
            broken.append(grids[-1].broken(search.book))
    return grids
