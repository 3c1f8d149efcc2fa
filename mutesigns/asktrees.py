"""What to ask next: the ask that tells most at the worst, and plans of least depth."""

from mutesigns.asks import Unsettled, asks_of, check_settling
from mutesigns.books import check_book
from mutesigns.listed import ask_bit, grid_listed
from mutesigns.listing import MOST_LISTED
from mutesigns.papers import Paper
from mutesigns.plans import least_depth, plan_within, plans_for
from mutesigns.possible import listed_kept

MOST_PLANNED = 16


class BestAsk(Paper):
    """The first ask that leaves fewest grids at the worst, and for each ask how many grids answer it so and so."""

    def __init__(self, ask, table):
        super().__init__("bestask", ask, table)
        self.ask = self.parts[0]
        self.table = self.parts[1]


class OneGrid(Paper):
    """The one grid that keeps a book."""

    def __init__(self, grid):
        super().__init__("onegrid", grid)
        self.grid = self.parts[0]


class Plan(Paper):
    """A plan of least depth: a leaf, or an ask and the plans behind its two answers."""

    def __init__(self, depth, tree):
        super().__init__("plan", depth, tree)
        self.depth = self.parts[0]
        self.tree = self.parts[1]


def best_ask(book):
    """The OneGrid of a book that one grid keeps, otherwise the BestAsk."""
    check_book(book)
    listed = listed_kept(book, MOST_LISTED)
    return OneGrid(grid_listed(listed, listed.masks[0])) if len(listed.masks) == 1 else best_listed(book, listed)


def best_listed(book, listed):
    """The BestAsk of the grids listed of a book, two or more."""
    table = []
    for ask in asks_of(book):
        bit = ask_bit(listed, ask)
        many = len([mask for mask in listed.masks if mask & bit])
        table.append((ask, many, len(listed.masks) - many))
    worst = [max(yes, no) for ask, yes, no in table]
    return BestAsk(table[worst.index(min(worst))][0], table)


def grid_plan(book):
    """The Plan to the grid."""
    check_book(book)
    listed = listed_kept(book, MOST_PLANNED)
    plans = plans_to_grid(book, listed)
    return _least_plan(plans, [grid_listed(listed, mask) for mask in listed.masks])


def plans_to_grid(book, listed):
    """The Plans by all asks of a book for its grids, each one a leaf."""
    return plans_for(splits_by(listed, asks_of(book)), [1 << number for number in range(len(listed.masks))])


def splits_by(listed, asks):
    """For each ask, a tuple, the pair of it and of the bits of the numbers of the grids that answer it with alike."""
    found = []
    for ask in asks:
        bit = ask_bit(listed, ask)
        found.append((tuple(ask), sum([1 << number for number, mask in enumerate(listed.masks) if mask & bit])))
    return found


def _least_plan(plans, leaves):
    """The Plan of least depth for all grids, with these values as leaves; there must be one."""
    lot = sum(plans.leaves)
    depth = least_depth(plans, lot, len(plans.splits))
    return Plan(depth, plan_within(plans, lot, depth, leaves))


def saying_plan(book, saying, asks):
    """The Plan for a saying by these asks, or the Unsettled if they do not settle it."""
    check_settling(book, saying, asks)
    listed = listed_kept(book, MOST_LISTED)
    unsettled = _unsettled_in(listed, saying, asks)
    return _least_plan(plans_for_saying(listed, saying, asks), (True, False)) if unsettled is None else unsettled


def plans_for_saying(listed, saying, asks):
    """The Plans by these asks for the grids listed, with the leaves of those in which the saying holds, and others."""
    alike, apart = listed.bits_for([saying])
    holding = sum([1 << number for number, mask in enumerate(listed.masks) if mask & (alike | apart) == alike])
    return plans_for(splits_by(listed, asks), [holding, (1 << len(listed.masks)) - 1 - holding])


def _unsettled_in(listed, saying, asks):
    """The Unsettled of the first grids listed that give one row though the saying holds in one alone; None for none."""
    alike, apart = listed.bits_for([saying])
    bits = sum([ask_bit(listed, ask) for ask in asks])
    firsts = {}
    for mask in listed.masks:
        does_hold = mask & (alike | apart) == alike
        firsts.setdefault((mask & bits, does_hold), mask)
        if (mask & bits, not does_hold) in firsts:
            one, other = [grid_listed(listed, firsts[(mask & bits, holds)]) for holds in (True, False)]
            return Unsettled(one, other)
    return None
