"""Whether papers of facts that bear, that clash, or that can be slips are right."""

from mutesigns.bearing import Bears, Unborne
from mutesigns.books import check_book
from mutesigns.check_trees import is_grid_keeping, is_tree
from mutesigns.checks import is_list
from mutesigns.clashes import Clash, lot_but
from mutesigns.facts import as_fact, contraries_of
from mutesigns.lots import are_apart, is_lot, lot_book, lots_fewer, rest_of
from mutesigns.possible import Kept
from mutesigns.slips import Slips
from mutesigns.standing import check_asked


def shows_bearing(book, asked, value):
    """Whether any value is a right Bears or Unborne of a Fact, or a Saying, by the book."""
    check_asked(book, asked)
    denied = contraries_of(as_fact(asked))
    if type(value) is Unborne:
        return is_grid_keeping(book, denied, value.grid)
    return type(value) is Bears and _is_bearing(book, denied, value)


def _is_bearing(book, denied, paper):
    """Whether the lot bears what is denied, and the grids show that no lot of fewer facts does."""
    numbers, grids = paper.numbers, paper.grids
    if not is_lot(numbers, len(book)) or not is_list(grids):
        return False
    bounds = lot_book(book, ())
    if not all([is_grid_keeping(bounds, denied, grid) for grid in grids]):
        return False
    broken = sorted(set([grid.broken(book) for grid in grids]))
    fewer = lots_fewer(len(book), len(numbers))
    return _are_all_met(fewer, broken) and is_tree(lot_book(book, numbers), denied, paper.tree)


def _are_all_met(lots, others):
    """Whether each of the lots has no number in common with some of the others."""
    return all([any([are_apart(lot, other) for other in others]) for lot in lots])


def shows_clash(book, value):
    """Whether any value is a right Clash of any lot with none to spare, or a Kept of any grid that keeps the book."""
    check_book(book)
    if type(value) is Kept:
        return is_grid_keeping(book, [], value.grid)
    return type(value) is Clash and _is_clash(book, value)


def _is_clash(book, paper):
    """Whether the tree shows that the lot clashes, and the grids that it has none to spare."""
    numbers, grids = paper.numbers, paper.grids
    if not is_lot(numbers, len(book)) or not is_list(grids) or len(grids) != len(numbers):
        return False
    if not is_tree(lot_book(book, numbers), [], paper.tree):
        return False
    return all([is_grid_keeping(lot_book(book, lot_but(numbers, number)), [], grid)
                for number, grid in zip(numbers, grids)])


def shows_slips(book, value):
    """Whether any value is a right Slips of any striking with fewest numbers."""
    check_book(book)
    return type(value) is Slips and _is_slips(book, value)


def _is_slips(book, paper):
    """Whether the grid shows that the lot is a striking, and the clashes that no lot of fewer facts is one."""
    numbers, clashes = paper.numbers, paper.clashes
    if not is_lot(numbers, len(book)) or not is_list(clashes):
        return False
    if not is_grid_keeping(lot_book(book, rest_of(numbers, len(book))), [], paper.grid):
        return False
    if not all([_is_clashing(book, pair) for pair in clashes]):
        return False
    told = sorted(set([lot for lot, tree in clashes]))
    return _are_all_met(lots_fewer(len(book), len(numbers)), told)


def _is_clashing(book, pair):
    """Whether it is a pair of a lot and a refusing tree of it."""
    if not is_list(pair) or len(pair) != 2 or not is_lot(pair[0], len(book)):
        return False
    return is_tree(lot_book(book, pair[0]), [], pair[1])
