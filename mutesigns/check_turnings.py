"""Whether papers of turnings are right."""

from mutesigns.check_trees import are_trees, is_grid_keeping
from mutesigns.checks import check_many, is_list, is_truth
from mutesigns.listed import bits_of_grid
from mutesigns.masks import pair_bits
from mutesigns.searches import MOST_SOUGHT
from mutesigns.states import Board
from mutesigns.turned import bits_failing, first_failing, places_fitting, way_back, ways_to_cross
from mutesigns.turnings import Astray, Leads, Turning, check_led, does_name, led_lots
from mutesigns.unparted import Led, Unled, check_turned


def shows_leads(turning, book, other, value):
    """Whether any value is a right Leads or Astray of a turning from a book to another one."""
    check_led(turning, book, other)
    if type(value) is Leads:
        return _are_leading(turning, book, other, value)
    if type(value) is not Astray or not is_truth(value.is_back):
        return False
    if value.is_back:
        return _is_astray(turning.back(), other, book, value.grid)
    return _is_astray(turning, book, other, value.grid)


def _are_leading(turning, book, other, paper):
    """Whether the trees of a paper show that a turning that fits leads a book to the other, and so back."""
    if not are_trees(other, led_lots(turning, book), paper.trees):
        return False
    return are_trees(book, led_lots(turning.back(), other), paper.back)


def _is_astray(turning, book, other, grid):
    """Whether any value is a grid that keeps a book, and of which a turning makes one that does not keep the other."""
    return is_grid_keeping(book, [], grid) and not turning.made(grid).keeps(other)


def shows_turning_to(book, other, pairs, is_crossed, value):
    """Whether any value is a Led of any of the turnings told, or a right Unled."""
    check_turned(book, other, pairs, is_crossed)
    for one in (book, other):
        check_many("signs", len(one.signs), MOST_SOUGHT)
    if type(value) is Led:
        is_one = _is_told(book, other, pairs, is_crossed, value.turning)
        return is_one and _are_leading(value.turning, book, other, value)
    if type(value) is not Unled or not _are_keeping(book, value.grids) or not _are_keeping(other, value.others):
        return False
    return _do_all_stray(book, other, places_fitting(book, other, pairs, is_crossed), value)


def _is_told(book, other, pairs, is_crossed, turning):
    """Whether any value is a Turning that fits the books, has these pairs, and is crossed as told."""
    if not isinstance(turning, Turning) or not does_name(turning, book, other):
        return False
    if turning.is_crossed not in ways_to_cross(book, other, is_crossed):
        return False
    return all([tuple(pair) in turning.pairs for pair in pairs])


def _are_keeping(book, grids):
    """Whether any value is a list of grids, perhaps of none, that keep the book."""
    return is_list(grids) and all([is_grid_keeping(book, [], grid) for grid in grids])


def _do_all_stray(book, other, turns, paper):
    """Whether of each turning, by numbers, one of the grids tells that it does not lead the one book to the other."""
    bits = pair_bits(len(book.signs))
    board, board_other = Board(book), Board(other)
    mine = [bits_of_grid(board, bits, grid) for grid in paper.grids]
    its = [bits_of_grid(board_other, bits, grid) for grid in paper.others]
    for turn in turns:
        if first_failing(mine, bits_failing(way_back(turn), board_other.facts, bits)) is None:
            if first_failing(its, bits_failing(turn, board.facts, bits)) is None:
                return False
    return True
