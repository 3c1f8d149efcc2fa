"""Grids: which signs stand in one row, and which in one column."""

from mutesigns.books import MOST_SIGNS, check_book
from mutesigns.checks import SIDES, again_at, are_names, check_many, check_side, check_signs, check_unlike
from mutesigns.checks import is_list, is_numbers, renames_just
from mutesigns.errors import BadFact, BadGrid, BadSaying, Misfit, Twice
from mutesigns.facts import as_fact
from mutesigns.sayings import Saying, signs_told, twos_of
from mutesigns.texts import Items, read_signs


class Grid:
    """A row and a column for each of its signs, numbered as the ascending signs come to them."""

    def __init__(self, signs, rows, columns):
        if not are_names(signs) or list(signs) != sorted(set(signs)):
            raise BadGrid("signs")
        if not _are_lines(rows, len(signs)):
            raise BadGrid("rows")
        if not _are_lines(columns, len(signs)):
            raise BadGrid("columns")
        _check_places(signs, list(zip(rows, columns)))
        check_many("signs", len(signs), MOST_SIGNS)
        self.signs = tuple(signs)
        self.rows = tuple(rows)
        self.columns = tuple(columns)
        self.many_rows = max(rows) + 1
        self.many_columns = max(columns) + 1

    @staticmethod
    def of(signs, places):
        """The Grid of signs in any order, with a pair of any integers as the place of each."""
        if not are_names(signs):
            raise BadGrid("signs")
        if not is_list(places) or len(places) != len(signs) or not all([_is_place(place) for place in places]):
            raise BadGrid("places")
        check_unlike(signs)
        pairs = [tuple(place) for place in places]
        _check_places(signs, pairs)
        stand = dict(zip(signs, pairs))
        ascending = sorted(signs)
        rows = numbered([stand[sign][0] for sign in ascending])
        return Grid(ascending, rows, numbered([stand[sign][1] for sign in ascending]))

    def place(self, sign):
        """The pair of the row and the column of this sign."""
        check_signs([sign], self.signs)
        at = self.signs.index(sign)
        return (self.rows[at], self.columns[at])

    def lots(self, side):
        """The rows, or the columns, in the order of their numbers, each the ascending tuple of its signs."""
        check_side(side)
        numbers = _lines_of(self, side)
        lots = [[] for _ in range(max(numbers) + 1)]
        for sign, number in zip(self.signs, numbers):
            lots[number].append(sign)
        return tuple([tuple(lot) for lot in lots])

    def are_alike(self, side, one, other):
        """Whether the two signs are in one row, or in one column."""
        check_side(side)
        check_signs([one, other], self.signs)
        return _are_alike(self, side, one, other)

    def holds(self, saying):
        """Whether this Saying holds."""
        if not isinstance(saying, Saying):
            raise BadSaying("saying")
        check_signs(signs_told([saying]), self.signs)
        return _holds(self, saying)

    def keeps_fact(self, fact):
        """Whether one at least of the sayings of this Fact holds."""
        told = as_fact(fact)
        if told is None:
            raise BadFact("fact")
        check_signs(signs_told(told.sayings), self.signs)
        return _keeps_fact(self, told)

    def broken(self, book):
        """The ascending numbers of the facts of the book that the grid breaks."""
        _check_belongs(self, book)
        return tuple([number for number, fact in enumerate(book.facts) if not _keeps_fact(self, fact)])

    def keeps(self, book):
        """Whether the grid keeps all facts and both bounds of the book."""
        _check_belongs(self, book)
        is_room = _lets(book.most_rows, self.many_rows) and _lets(book.most_columns, self.many_columns)
        return is_room and all([_keeps_fact(self, fact) for fact in book.facts])

    def sayings(self):
        """All Sayings that hold, ascending."""
        twos = [(side, one, other) for side in SIDES for one, other in twos_of(self.signs)]
        return tuple([Saying(side, one, other, _are_alike(self, side, one, other)) for side, one, other in twos])

    def crossed(self):
        """The Grid with rows and columns exchanged."""
        return Grid(self.signs, self.columns, self.rows)

    def renamed(self, names):
        """The Grid of the names of its signs."""
        if not renames_just(names, self.signs):
            raise BadGrid("names")
        return Grid.of([names[sign] for sign in self.signs], list(zip(self.rows, self.columns)))

    @staticmethod
    def read(text):
        """The Grid of which this is the text."""
        items = Items(text)
        grid = _read_grid(items)
        items.end()
        return grid

    def __eq__(self, other):
        return isinstance(other, Grid) and _grid_parts(self) == _grid_parts(other)

    def __str__(self):
        return " ".join(_grid_items(self))


def check_grid(grid):
    """Raises BadGrid for what is no Grid."""
    if not isinstance(grid, Grid):
        raise BadGrid("grid")


def numbered(values):
    """The tuple of numbers for the values, counted in the order in which unlike ones first come."""
    numbers = {}
    for value in values:
        numbers.setdefault(value, len(numbers))
    return tuple([numbers[value] for value in values])


def _are_lines(value, many):
    """Whether it is a list of so many integers, numbered as the rows of a grid are."""
    return is_numbers(value) and len(value) == many and tuple(value) == numbered(value)


def _is_place(value):
    """Whether it is a pair of integers."""
    return is_numbers(value) and len(value) == 2


def _check_places(signs, places):
    """Raises Twice for the first sign at a place at which one ahead of it stands."""
    at = again_at(places)
    if at is not None:
        raise Twice(signs[at])


def _check_belongs(grid, book):
    """Raises BadBook for what is no Book, Misfit for one that has not just the signs of the grid."""
    check_book(book)
    if book.signs != grid.signs:
        raise Misfit("signs")


def _lines_of(grid, side):
    """The numbers of the rows, or of the columns, of its signs."""
    return grid.rows if side == "row" else grid.columns


def _are_alike(grid, side, one, other):
    """Whether two signs of the grid are alike on a side."""
    numbers = _lines_of(grid, side)
    return numbers[grid.signs.index(one)] == numbers[grid.signs.index(other)]


def _holds(grid, saying):
    """Whether a saying of signs of the grid holds."""
    return _are_alike(grid, saying.side, saying.one, saying.other) == saying.alike


def _keeps_fact(grid, fact):
    """Whether a saying of the fact, one of signs of the grid, holds."""
    return any([_holds(grid, saying) for saying in fact.sayings])


def _lets(bound, many):
    """Whether the bound lets so many be."""
    return bound is None or many <= bound


def _grid_parts(grid):
    """All that tells a grid."""
    return (grid.signs, grid.rows, grid.columns)


def _grid_items(grid):
    """The items of its text."""
    rows = [str(row) for row in grid.rows]
    columns = [str(column) for column in grid.columns]
    return [*grid.signs, ":", *rows, ":", *columns]


def _read_grid(items):
    """Reads a Grid."""
    signs = read_signs(items, MOST_SIGNS)
    items.take_word(":")
    rows = []
    for _ in signs:
        rows.append(_read_line(items, rows))
    items.take_word(":")
    columns = []
    for _ in signs:
        columns.append(_read_line(items, columns))
        if again_at(list(zip(rows, columns))) is not None:
            items.refuse_last()
    return Grid(signs, rows, columns)


def _read_line(items, ahead):
    """Reads the number of the row, or of the column, of the sign behind those ahead."""
    return items.take_integer(0, max(ahead, default=-1) + 1)
