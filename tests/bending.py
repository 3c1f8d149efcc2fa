"""Papers bent at any place, and plain looks at what is in them, for the tests of the checks."""

from mutesigns.grids import Grid
from mutesigns.papers import Paper, fixed
from oracles import is_right_tree
from support import SAME

ODD = [None, True, False, 0, 1, 2, "", "a", "row", (), ("a",), ((),), SAME, 1.0]


def bent(draw, value, pool):
    """The value with one thing in it exchanged, left out, told twice or moved, at any depth."""
    if isinstance(value, Paper):
        return bent_paper(draw, value, pool)
    if isinstance(value, bool) and draw.random() < 0.7:
        return draw.choice([not value, int(value)])
    if isinstance(value, int) and draw.random() < 0.7:
        return draw.choice([value + 1, value - 1, bool(value), float(value)])
    if not isinstance(value, (list, tuple)) or not value or draw.random() < 0.1:
        return draw.choice(pool)
    items = list(value)
    at, other = draw.randrange(len(items)), draw.randrange(len(items))
    way = draw.choice(("deeper", "deeper", "deeper", "out", "again", "moved"))
    if way == "deeper":
        items[at] = bent(draw, items[at], pool)
    elif way == "out":
        del items[at]
    elif way == "again":
        items.insert(at, items[other])
    else:
        items[at], items[other] = items[other], items[at]
    return draw.choice((list, tuple))(items)


def bent_paper(draw, paper, pool):
    """A paper of the same class, with one of its parts bent."""
    parts = list(paper.parts)
    at = draw.randrange(len(parts))
    parts[at] = bent(draw, parts[at], pool)
    return type(paper)(*parts)


def is_row(value, many=None):
    """Whether it is a list or tuple, of so many things."""
    return isinstance(value, (list, tuple)) and many in (None, len(value))


def is_any_tree(book, sayings, value):
    """Whether any value is a refusing tree."""
    return is_row(value) and all(is_row(row) for row in value) and is_right_tree(book, list(sayings), value)


def is_grid_in(grid, kept):
    """Whether any value is one of these grids."""
    return type(grid) is Grid and any(str(grid) == str(one) for one in kept)


def is_told(value, told):
    """Whether any value is just this, lists in it taken as tuples, 1 and True held apart."""
    return repr(fixed(value)) == repr(fixed(told)) and fixed(value) == fixed(told)


def is_lot_of(value, many):
    """Whether any value is an ascending list of numbers below many."""
    return (is_row(value) and all(type(one) is int and 0 <= one < many for one in value)
            and all(one < other for one, other in zip(value, value[1:])))


def both_sorts(case, found, least=20):
    """Of these truths both come so often at least."""
    case.assertGreaterEqual(found.count(True), least)
    case.assertGreaterEqual(found.count(False), least)
