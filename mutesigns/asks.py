"""Asks: whether two signs are alike on a side; what grids answer, and which asks settle a saying."""

from mutesigns.books import check_book
from mutesigns.checks import SIDES, again_at, check_many, check_signs, is_list, is_name, is_side
from mutesigns.errors import BadSaying, Twice
from mutesigns.grids import check_grid
from mutesigns.listed import ask_bit
from mutesigns.listing import MOST_LISTED
from mutesigns.lots import all_lots, lots_fewer
from mutesigns.papers import Denial, Paper
from mutesigns.possible import listed_kept, search_kept
from mutesigns.sayings import Saying, signs_told, twos_of
from mutesigns.searches import grid_where, refusing_tree

MOST_ASKS = 6


class Settles(Paper):
    """For each row of answers whether a saying holds then, and a refusing tree that shows it."""

    def __init__(self, rows):
        super().__init__("settles", rows)
        self.rows = self.parts[0]


class Unsettled(Denial):
    """Two grids that keep a book and give one row of answers; a saying holds in the first alone."""

    def __init__(self, one, other):
        super().__init__("unsettled", one, other)
        self.one = self.parts[0]
        self.other = self.parts[1]


class LeastLot(Paper):
    """The first lot of the fewest asks that settles a saying, its rows, and two grids for each lot of one fewer."""

    def __init__(self, numbers, rows, pairs):
        super().__init__("leastlot", numbers, rows, pairs)
        self.numbers = self.parts[0]
        self.rows = self.parts[1]
        self.pairs = self.parts[2]


def asks_of(book):
    """All asks of the signs of the book, ascending."""
    check_book(book)
    return tuple([(side, one, other) for side in SIDES for one, other in twos_of(book.signs)])


def answers_of(grid, asks):
    """The row of answers of a grid."""
    check_grid(grid)
    check_ask_list(asks, grid.signs)
    return row_given(grid, asks)


def check_ask_list(asks, signs):
    """Raises BadSaying for no list of asks, NoSign for the first sign that is none of these, Twice for an ask again."""
    if not is_list(asks) or not all([_is_ask(ask) for ask in asks]):
        raise BadSaying("asks")
    for ask in asks:
        check_signs(ask[1:], signs)
    twice_at = again_at([tuple(ask) for ask in asks])
    if twice_at is not None:
        raise Twice(asks[twice_at])


def _is_ask(value):
    """Whether it is a side and two names, one less than other."""
    if not is_list(value) or len(value) != 3 or not is_side(value[0]):
        return False
    return is_name(value[1]) and is_name(value[2]) and value[1] < value[2]


def row_given(grid, asks):
    """The row of answers of a grid to asks of its signs."""
    return tuple([grid.are_alike(*ask) for ask in asks])


def rows_had(book, asks):
    """For each row of answers that is had (answers, how many grids give it), ascending."""
    check_book(book)
    check_few_asks(book, asks)
    listed = listed_kept(book, MOST_LISTED)
    bits = [ask_bit(listed, ask) for ask in asks]
    many = {}
    for mask in listed.masks:
        row = tuple([mask & bit == bit for bit in bits])
        many[row] = many.get(row, 0) + 1
    return tuple([(row, many[row]) for row in sorted(many)])


def check_few_asks(book, asks):
    """Raises the errors of asks of the signs of a book, TooMany asks at last."""
    check_ask_list(asks, book.signs)
    check_many("asks", len(asks), MOST_ASKS)


def check_settling(book, saying, asks):
    """Raises the errors of asks by which a saying may be settled, but TooMany of signs and grids, and Impossible."""
    check_book(book)
    if not isinstance(saying, Saying):
        raise BadSaying("saying")
    check_signs(signs_told([saying]), book.signs)
    check_few_asks(book, asks)


def rows_of(many):
    """All rows of so many answers, ascending."""
    rows = [()]
    for _ in range(many):
        rows = [(*row, is_alike) for row in rows for is_alike in (False, True)]
    return rows


def sayings_answered(asks, row):
    """The sayings of a row of answers."""
    return [Saying(*ask, is_alike) for ask, is_alike in zip(asks, row)]


def settles(book, saying, asks):
    """The Settles of a saying by these asks, or the Unsettled."""
    check_settling(book, saying, asks)
    table = _grids_by_rows(search_kept(book), saying, asks)
    pair = _pair_unsettled(table)
    return Settles(_rows_settled(book, saying, asks, table)) if pair is None else Unsettled(*pair)


def least_lot(book, saying, asks):
    """The LeastLot of the asks that settles a saying, or the Unsettled if all of them do not."""
    check_settling(book, saying, asks)
    table = _grids_by_rows(search_kept(book), saying, asks)
    pair = _pair_unsettled(table)
    if pair is not None:
        return Unsettled(*pair)
    settling = [lot for lot in all_lots(len(asks)) if _pair_unsettled(_part_of_rows(table, lot)) is None]
    numbers = settling[0]
    rows = _rows_settled(book, saying, [asks[number] for number in numbers], _part_of_rows(table, numbers))
    pairs = [_pair_unsettled(_part_of_rows(table, lot)) for lot in lots_fewer(len(asks), len(numbers))]
    return LeastLot(numbers, rows, pairs)


def _grids_by_rows(search, saying, asks):
    """For each row of answers, ascending, a grid that gives it in which the saying holds, and one in which it does not.

    None stands for a grid that there is not.
    """
    table = {}
    for row in rows_of(len(asks)):
        told = sayings_answered(asks, row)
        table[row] = (grid_where(search, [*told, saying]), grid_where(search, [*told, saying.contrary()]))
    return table


def _part_of_rows(table, numbers):
    """The same for the rows of answers to just the asks with these numbers."""
    found = {row: (None, None) for row in rows_of(len(numbers))}
    for row, grids in table.items():
        part = tuple([row[number] for number in numbers])
        found[part] = tuple([more if known is None else known for known, more in zip(found[part], grids)])
    return found


def _pair_unsettled(table):
    """The first pair of grids that give one row though the saying holds in the first alone, None if there is none."""
    for pair in table.values():
        if None not in pair:
            return pair
    return None


def _rows_settled(book, saying, asks, table):
    """For each row of answers whether the saying holds then, and a refusing tree that shows it."""
    rows = []
    for row, (keeping, _) in table.items():
        refused = saying if keeping is None else saying.contrary()
        rows.append((keeping is not None, refusing_tree(book, [*sayings_answered(asks, row), refused])))
    return rows
