"""Whether papers of known signs, and of the letters of signs, are right."""

from mutesigns.books import check_book
from mutesigns.breaking import are_ascending
from mutesigns.check_trees import is_fork, is_grid_keeping, is_tree, is_tree_from, leaves_of
from mutesigns.checks import SIDES, again_at, is_just, is_list, is_one_of, is_side
from mutesigns.enough import Enough, FewestEnough, Twofold, Unread
from mutesigns.grids import Grid, check_grid
from mutesigns.known import FewestKnown
from mutesigns.lettered import Letters, check_lettered, letters_told, new_told
from mutesigns.listing import part_of
from mutesigns.lots import are_apart, lots_fewer
from mutesigns.readings import check_known, first_unread, is_read
from mutesigns.sayings import Saying
from mutesigns.states import Board, state_of, state_with


def shows_fewest_known(grid, value):
    """Whether any value is a right FewestKnown: enough signs, and as many lines, no two of which meet."""
    check_grid(grid)
    if type(value) is not FewestKnown or not _are_signs(grid.signs, value.signs) or not is_list(value.lines):
        return False
    if len(value.lines) != len(value.signs) or not all([_is_line(grid, line) for line in value.lines]):
        return False
    return first_unread(grid, value.signs) is None and _do_none_meet(grid, value.lines)


def _are_signs(signs, value):
    """Whether it is a list of some of these signs, each once."""
    return is_list(value) and all([is_one_of(sign, signs) for sign in value]) and again_at(value) is None


def _is_line(grid, value):
    """Whether it is a side and a sign, which tell a line of the grid."""
    return is_list(value) and len(value) == 2 and is_side(value[0]) and is_one_of(value[1], grid.signs)


def _do_none_meet(grid, lines):
    """Whether the lines, told by some of their signs, are unlike, and no sign stands on two of them."""
    lots = [_signs_on(grid, side, sign) for side, sign in lines]
    return all([are_apart(one, other) for at, one in enumerate(lots) for other in lots[at + 1:]])


def _signs_on(grid, side, sign):
    """The signs of the line on which a sign stands."""
    return [lot for lot in grid.lots(side) if sign in lot][0]


def shows_enough(book, known, value):
    """Whether any value is a right Enough, Unread or Twofold of known signs."""
    check_book(book)
    check_known(known, book.signs)
    if type(value) is Enough:
        return _is_reading_tree(book, known, value.rows)
    return _is_denial(book, known, value)


def _is_denial(book, known, value):
    """Whether any value is an Unread or a Twofold that shows that known signs are not enough."""
    if type(value) is Unread:
        if not is_side(value.side) or not is_one_of(value.sign, book.signs):
            return False
        return is_grid_keeping(book, [], value.grid) and not is_read(value.grid, known, value.side, value.sign)
    return type(value) is Twofold and _is_twofold(book, known, value.one, value.other)


def _is_twofold(book, known, one, other):
    """Whether these are unlike grids that keep the book and agree on the known signs, perhaps on none."""
    if not is_grid_keeping(book, [], one) or not is_grid_keeping(book, [], other) or one == other:
        return False
    return len(known) == 0 or part_of(one, known) == part_of(other, known)


def _is_reading_tree(book, known, rows):
    """Whether any value is a reading tree of the book for known signs."""
    if not is_list(rows) or len(rows) == 0:
        return False
    board = Board(book)
    if not all([row[1] in known and row[2] in known for row in rows if is_fork(board, row)]):
        return False
    leaves = leaves_of(board, state_of(board, book, []), rows)
    return leaves is not None and all([_is_read_row(board, state, known, row) for row, state in leaves])


def _is_read_row(board, state, known, row):
    """Whether a row is ("read", marks) with a right mark for each sign that is not known, ascending."""
    waiting = [sign for sign in board.signs if sign not in known]
    if not is_list(row) or len(row) != 2 or not is_just(row[0], "read") or not is_list(row[1]):
        return False
    if len(row[1]) != len(waiting):
        return False
    return all([_is_mark(board, state, known, sign, mark) for sign, mark in zip(waiting, row[1])])


def _is_mark(board, state, known, sign, mark):
    """Whether a mark tells a sign, and on each side a known one from which trees show that it cannot be apart."""
    if not is_list(mark) or len(mark) != 5 or not is_just(mark[0], sign):
        return False
    shown = {"row": mark[1:3], "column": mark[3:5]}
    return all([_is_read_by(board, state, known, (side, sign), shown[side]) for side in SIDES])


def _is_read_by(board, state, known, asked, shown):
    """Whether a known sign and a tree show that a sign is alike with the known one on a side, where this stands."""
    one, tree = shown
    if not is_one_of(one, known):
        return False
    return is_tree_from(board, state_with(state, board.by_numbers(Saying(*asked, one, False))), tree)


def shows_fewest_enough(book, value):
    """Whether any value is a right FewestEnough of any of the fewest lots."""
    check_book(book)
    if type(value) is not FewestEnough or not are_ascending(Board(book), value.signs):
        return False
    fewer = lots_fewer(len(book.signs), len(value.signs))
    if not is_list(value.denials) or len(value.denials) != len(fewer):
        return False
    lots = [[book.signs[number] for number in lot] for lot in fewer]
    if not all([_is_denial(book, lot, denial) for lot, denial in zip(lots, value.denials)]):
        return False
    return _is_reading_tree(book, value.signs, value.rows)


def shows_letters(book, values, side, sign, value):
    """Whether any value is a right Letters of a sign without a value."""
    check_lettered(book, values, side, sign)
    told = letters_told(values, side, sign)
    if type(value) is not Letters or not is_list(value.rows) or len(value.rows) != len(told):
        return False
    if not all([_is_letter_row(book, *row, shown) for row, shown in zip(told, value.rows)]):
        return False
    return _is_grid_or_tree(book, new_told(values, side, sign), value.new)


def _is_letter_row(book, letter, sayings, row):
    """Whether a row is a letter and what shows whether it can be."""
    return is_list(row) and len(row) == 2 and is_just(row[0], letter) and _is_grid_or_tree(book, sayings, row[1])


def _is_grid_or_tree(book, sayings, value):
    """Whether any value is a Grid that keeps the book and in which the sayings hold, or a refusing tree."""
    return is_grid_keeping(book, sayings, value) if isinstance(value, Grid) else is_tree(book, sayings, value)
