"""Signs that are enough for a book: known, they read all signs of each grid that keeps it, and tell this grid."""

from mutesigns.books import check_book
from mutesigns.checks import SIDES
from mutesigns.listed import grid_listed
from mutesigns.listing import part_of
from mutesigns.lots import sized
from mutesigns.papers import Denial, Paper
from mutesigns.possible import listed_kept, search_kept
from mutesigns.readings import check_known, first_unread
from mutesigns.sayings import Saying, twos_of
from mutesigns.searches import grid_where, refusing_tree

MOST_READ = 120


class Enough(Paper):
    """A reading tree of a book for some known signs."""

    def __init__(self, rows):
        super().__init__("enough", rows)
        self.rows = self.parts[0]


class FewestEnough(Paper):
    """The fewest signs that are enough for a book, a reading tree for them, a denial for each lot of one sign fewer."""

    def __init__(self, signs, rows, denials):
        super().__init__("fewestenough", signs, rows, denials)
        self.signs = self.parts[0]
        self.rows = self.parts[1]
        self.denials = self.parts[2]


class Unread(Denial):
    """A grid that keeps a book, and a sign that the known ones do not read there on a side."""

    def __init__(self, grid, side, sign):
        super().__init__("unread", grid, side, sign)
        self.grid = self.parts[0]
        self.side = self.parts[1]
        self.sign = self.parts[2]


class Twofold(Denial):
    """Two unlike grids that keep a book and agree on the known signs."""

    def __init__(self, one, other):
        super().__init__("twofold", one, other)
        self.one = self.parts[0]
        self.other = self.parts[1]


def enough(book, known):
    """The Enough of known signs, an Unread or a Twofold if they are not enough."""
    check_book(book)
    check_known(known, book.signs)
    kept = _kept_grids(book)
    denial = _denial_of(kept, known)
    return Enough(_grown_reading(book, kept, sorted(known), (), 0)) if denial is None else denial


def fewest_enough(book):
    """The FewestEnough of the first lot of the fewest signs that are enough."""
    check_book(book)
    kept = _kept_grids(book)
    denials = []
    for size in range(len(book.signs) + 1):
        fewer = denials
        denials = [_denial_of(kept, lot) for lot in sized(book.signs, size)]
        if None in denials:
            signs = sized(book.signs, size)[denials.index(None)]
            return FewestEnough(signs, _grown_reading(book, kept, signs, (), 0), fewer)
    return None


def _kept_grids(book):
    """The grids by which signs are enough for the book or not: all that keep it, of a plain book the finest alone.

    Raises TooMany of signs and grids for a book that is not plain, Impossible for one that no grid keeps.
    """
    if book.is_plain:
        return [grid_where(search_kept(book), [])]
    listed = listed_kept(book, MOST_READ)
    return [grid_listed(listed, mask) for mask in listed.masks]


def _denial_of(kept, known):
    """The Unread or the Twofold of known signs that are not enough by these grids, None if they are."""
    for grid in kept:
        unread = first_unread(grid, known)
        if unread is not None:
            return Unread(grid, *unread)
    firsts = {}
    for grid in kept:
        part = str(part_of(grid, known))
        if part in firsts:
            return Twofold(firsts[part], grid)
        firsts[part] = grid
    return None


def _grown_reading(book, kept, known, told, at):
    """The rows of a reading tree where these sayings stand and these grids are left, the first row with this number.

    Forks ask the known signs until the grids left agree on with which of them each other sign is alike.
    """
    marks = [_mark_of(book, kept, known, told, sign) for sign in book.signs if sign not in known]
    if None not in marks:
        return [("read", marks)]
    saying = _asked_next(kept, known)
    alike = [grid for grid in kept if grid.holds(saying)]
    apart = [grid for grid in kept if not grid.holds(saying)]
    first = _grown_reading(book, alike, known, (*told, saying), at + 1)
    behind = at + 1 + len(first)
    second = _grown_reading(book, apart, known, (*told, saying.contrary()), behind)
    return [(saying.side, saying.one, saying.other, at + 1, behind), *first, *second]


def _mark_of(book, kept, known, told, sign):
    """The mark of a sign that is not known, None if it is not alike with the same known ones in all grids left."""
    one, other = [_mate_of(kept, known, side, sign) for side in ("row", "column")]
    if one is None or other is None:
        return None
    first = refusing_tree(book, [*told, Saying("row", sign, one, False)])
    return (sign, one, first, other, refusing_tree(book, [*told, Saying("column", sign, other, False)]))


def _mate_of(kept, known, side, sign):
    """The first known sign with which the sign is alike on the side in all grids, None if there is none."""
    for one in known:
        if all([grid.are_alike(side, sign, one) for grid in kept]):
            return one
    return None


def _asked_next(kept, known):
    """The saying that two known signs are alike which parts the grids most evenly."""
    asked = [Saying(side, one, other) for side in SIDES for one, other in twos_of(sorted(known))]
    many = [len([grid for grid in kept if grid.holds(saying)]) for saying in asked]
    least = [min(alike, len(kept) - alike) for alike in many]
    return asked[least.index(max(least))]
