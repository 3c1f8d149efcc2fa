"""Which turnings lead a book to itself, or to another one; which of its signs and pairs nothing parts."""

from mutesigns.books import check_book
from mutesigns.checks import SIDES, check_many, is_list, is_one_of, is_truth
from mutesigns.errors import BadTurning, Misfit
from mutesigns.listed import grid_listed
from mutesigns.listing import MOST_LISTED
from mutesigns.papers import Denial, Paper
from mutesigns.possible import check_listed, listed_kept, listed_within
from mutesigns.turned import bits_failing, first_failing, pair_made, places_fitting, turning_told, way_back
from mutesigns.turned import ways_to_cross
from mutesigns.turnings import check_two_books, led_trees

MOST_TURNINGS = 200


class Led(Paper):
    """A turning that leads a book to another one, and the trees that show it, as in a Leads."""

    def __init__(self, turning, trees, back):
        super().__init__("led", turning, trees, back)
        self.turning = self.parts[0]
        self.trees = self.parts[1]
        self.back = self.parts[2]


class Unled(Denial):
    """Grids that keep a book, and grids that keep another one, by which no turning leads from the one to the other."""

    def __init__(self, grids, others):
        super().__init__("unled", grids, others)
        self.grids = self.parts[0]
        self.others = self.parts[1]


def turnings(book):
    """All Turnings that lead a book to itself, ascending by their pairs, straight ahead of crossed."""
    found = _leading_itself(book)
    check_many("turnings", len(found), MOST_TURNINGS)
    return tuple([turning_told(turn, book, book) for turn in found])


def _leading_itself(book):
    """All turnings by numbers that lead a book to itself; raises BadBook, TooMany, Impossible."""
    check_book(book)
    listed = listed_kept(book, MOST_LISTED)
    return [turn for turn in places_fitting(book, book, (), None) if _strays(turn, listed, listed) == (None, None)]


def _strays(turn, listed, others):
    """The first grid, told by bits, of which a turning makes one that does not keep the other book, and so back.

    The one is sought among the grids listed, the other among the others; None where there is none.
    """
    mine, its = failing_by(turn, listed, others)
    return (first_failing(listed.masks, mine), first_failing(others.masks, its))


def failing_by(turn, listed, others):
    """What fails in the grids of a book of which a turning makes none that keeps the other, and so back, by bits."""
    mine = bits_failing(way_back(turn), others.board.facts, listed.bits)
    return (mine, bits_failing(turn, listed.board.facts, others.bits))


def like_signs(book):
    """The signs of a book in groups of like ones, each ascending, the groups ascending."""
    found = _leading_itself(book)
    signs = list(range(len(book.signs)))
    groups = _groups([(sign, [turn.places[sign] for turn in found]) for sign in signs])
    return tuple([tuple([book.signs[sign] for sign in group]) for group in groups])


def like_pairs(book):
    """All pairs (side, one, other) of a book in groups of like ones, each ascending, the groups ascending."""
    found = _leading_itself(book)
    many = range(len(book.signs))
    pairs = [(side, one, other) for side in range(2) for one in many for other in many if one < other]
    groups = _groups([(pair, [pair_made(turn, pair) for turn in found]) for pair in pairs])
    return tuple([tuple([(SIDES[side], book.signs[one], book.signs[other]) for side, one, other in group])
                  for group in groups])


def _groups(rows):
    """The groups, ascending, of values each told with all that turnings which lead a book to itself make of it."""
    return [sorted(set(made)) for value, made in rows if value == min(made)]


def turning_to(book, other, pairs=(), is_crossed=None):
    """The Led of the first of the turnings told that leads a book to another one, or the Unled."""
    check_turned(book, other, pairs, is_crossed)
    listed, others = listed_within(book, MOST_LISTED), listed_within(other, MOST_LISTED)
    check_listed(listed, book)
    check_listed(others, other)
    told = [[], []]
    for turn in places_fitting(book, other, pairs, is_crossed):
        mine, its = failing_by(turn, listed, others)
        if first_failing(told[0], mine) is None and first_failing(told[1], its) is None:
            strays = _strays(turn, listed, others)
            if strays == (None, None):
                turning = turning_told(turn, book, other)
                trees, back = led_trees(turning, book, other)
                return Led(turning, trees, back)
            told = [[*masks, mask] if mask is not None else masks for masks, mask in zip(told, strays)]
    return Unled([grid_listed(listed, mask) for mask in told[0]], [grid_listed(others, mask) for mask in told[1]])


def check_turned(book, other, pairs, is_crossed):
    """Raises the errors of two books between which a turning is sought, but TooMany and Impossible."""
    check_two_books(book, other)
    if not is_list(pairs) or not all([_is_pair(book, other, pair) for pair in pairs]):
        raise BadTurning("pairs")
    if is_crossed is not None and not is_truth(is_crossed):
        raise BadTurning("is_crossed")
    if len(book.signs) != len(other.signs):
        raise Misfit("signs")
    if not ways_to_cross(book, other, is_crossed):
        raise Misfit("bounds")


def _is_pair(book, other, value):
    """Whether it is a pair of a sign of a book and one of the other."""
    return is_list(value) and len(value) == 2 and is_one_of(value[0], book.signs) and is_one_of(value[1], other.signs)
