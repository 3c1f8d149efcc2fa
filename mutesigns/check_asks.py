"""Whether papers of asks and of plans are right."""

from mutesigns.asks import LeastLot, Settles, Unsettled, asks_of, check_settling, row_given, rows_of, sayings_answered
from mutesigns.asktrees import MOST_PLANNED, BestAsk, OneGrid, Plan, best_listed, plans_for_saying, plans_to_grid
from mutesigns.asktrees import splits_by
from mutesigns.books import check_book
from mutesigns.check_trees import is_grid_keeping, is_tree
from mutesigns.checks import is_integer, is_just, is_list, is_truth
from mutesigns.grids import Grid
from mutesigns.listed import grid_listed
from mutesigns.listing import MOST_LISTED
from mutesigns.lots import is_lot, lots_fewer
from mutesigns.plans import can_plan, leaf_of
from mutesigns.possible import listed_within


def shows_settles(book, saying, asks, value):
    """Whether any value is a right Settles or Unsettled of a saying by these asks."""
    check_settling(book, saying, asks)
    if type(value) is Settles:
        return _are_settled(book, saying, asks, value.rows)
    return _is_unsettled(book, saying, asks, value)


def _are_settled(book, saying, asks, rows):
    """Whether these tell for each row of answers a truth and a tree that shows that the saying holds then, or not."""
    told = rows_of(len(asks))
    if not is_list(rows) or len(rows) != len(told):
        return False
    return all([_is_settled(book, saying, sayings_answered(asks, row), shown) for row, shown in zip(told, rows)])


def _is_settled(book, saying, answered, shown):
    """Whether it is a truth and a tree that shows that the saying holds where these sayings do, or does not."""
    if not is_list(shown) or len(shown) != 2 or not is_truth(shown[0]):
        return False
    return is_tree(book, [*answered, saying.contrary() if shown[0] else saying], shown[1])


def _is_unsettled(book, saying, asks, value):
    """Whether any value is a right Unsettled."""
    return type(value) is Unsettled and _is_pair_unsettled(book, saying, asks, value.one, value.other)


def _is_pair_unsettled(book, saying, asks, one, other):
    """Whether these are grids that keep the book and give one row, and the saying holds in the first alone."""
    if not is_grid_keeping(book, [saying], one) or not is_grid_keeping(book, [saying.contrary()], other):
        return False
    return row_given(one, asks) == row_given(other, asks)


def shows_least_lot(book, saying, asks, value):
    """Whether any value is a LeastLot of any lot of the fewest asks that settle a saying, or a right Unsettled."""
    check_settling(book, saying, asks)
    if type(value) is LeastLot:
        return _is_least_lot(book, saying, asks, value)
    return _is_unsettled(book, saying, asks, value)


def _is_least_lot(book, saying, asks, paper):
    """Whether the rows show that the lot settles the saying, and the pairs that no lot of fewer asks does."""
    if not is_lot(paper.numbers, len(asks)) or not is_list(paper.pairs):
        return False
    fewer = lots_fewer(len(asks), len(paper.numbers))
    if len(paper.pairs) != len(fewer):
        return False
    if not all([_is_pair(book, saying, _asks_in(asks, lot), pair) for lot, pair in zip(fewer, paper.pairs)]):
        return False
    return _are_settled(book, saying, _asks_in(asks, paper.numbers), paper.rows)


def _asks_in(asks, lot):
    """The asks with these numbers."""
    return [asks[number] for number in lot]


def _is_pair(book, saying, asks, pair):
    """Whether any value is a pair of grids as of an Unsettled."""
    return is_list(pair) and len(pair) == 2 and _is_pair_unsettled(book, saying, asks, pair[0], pair[1])


def shows_best_ask(book, value):
    """Whether any value is the BestAsk, or the OneGrid, of a book."""
    check_book(book)
    listed = listed_within(book, MOST_LISTED)
    if type(value) is OneGrid:
        return len(listed.masks) == 1 and is_grid_keeping(book, [], value.grid)
    if type(value) is not BestAsk or len(listed.masks) < 2:
        return False
    best = best_listed(book, listed)
    return is_just(value.ask, best.ask) and is_just(value.table, best.table)


def shows_grid_plan(book, value):
    """Whether any value is a Plan of least depth to the grid."""
    check_book(book)
    listed = listed_within(book, MOST_PLANNED)
    if type(value) is not Plan or not listed.masks:
        return False
    plans = plans_to_grid(book, listed)
    leaves = [grid_listed(listed, mask) for mask in listed.masks]
    return _is_least_plan(plans, splits_by(listed, asks_of(book)), leaves, value)


def shows_saying_plan(book, saying, asks, value):
    """Whether any value is a Plan of least depth for a saying by these asks, or a right Unsettled."""
    check_settling(book, saying, asks)
    listed = listed_within(book, MOST_LISTED)
    if type(value) is not Plan or not listed.masks:
        return _is_unsettled(book, saying, asks, value)
    plans = plans_for_saying(listed, saying, asks)
    return _is_least_plan(plans, splits_by(listed, asks), (True, False), value)


def _is_least_plan(plans, splits, leaves, paper):
    """Whether the tree is a plan for all grids, as deep as is told, and none is less deep."""
    lot = sum(plans.leaves)
    depth = _depth_of(plans, splits, leaves, lot, paper.tree)
    if depth is None or not is_integer(paper.depth) or paper.depth != depth:
        return False
    return not can_plan(plans, lot, depth - 1)


def _depth_of(plans, splits, leaves, lot, tree):
    """The depth of a plan for these grids, None for what is none."""
    if not isinstance(tree, tuple):
        number = leaf_of(plans, lot)
        return 0 if number is not None and _is_leaf(tree, leaves[number]) else None
    if len(tree) != 3:
        return None
    for ask, bits in splits:
        if is_just(tree[0], ask) and lot & bits and lot & ~bits:
            yes = _depth_of(plans, splits, leaves, lot & bits, tree[1])
            no = _depth_of(plans, splits, leaves, lot & ~bits, tree[2])
            return None if yes is None or no is None else 1 + max(yes, no)
    return None


def _is_leaf(value, leaf):
    """Whether any value is this leaf, a Grid or a truth."""
    return value == leaf if isinstance(leaf, Grid) and isinstance(value, Grid) else is_just(value, leaf)
