"""Whether papers of readings, and of words in the cells of sheets, are right."""

from mutesigns.cell_cuts import CellCut, cell_cuts, does_agree, sayings_of_word, ways_against, word_with
from mutesigns.check_trees import are_trees, is_grid_keeping, is_tree
from mutesigns.checks import is_list
from mutesigns.cuttings import Cutting, cuttings, does_fit, sayings_cut
from mutesigns.sheetgaps import NeverWord, NoReading, OpenWord, Reading, SureWord, book_for, check_reading, check_word


def shows_reading(book, sheet, value):
    """Whether any value is a right Reading, or a right NoReading."""
    check_reading(book, sheet)
    if type(value) is Reading:
        return _is_reading(book, sheet, value)
    if type(value) is not NoReading:
        return False
    return are_trees(book, [sayings_cut(sheet, cutting) for cutting in cuttings(sheet)], value.trees)


def _is_reading(book, sheet, value):
    """Whether any value is a Reading: its cutting fits, and its grid keeps the book and the sayings of the cutting."""
    if type(value) is not Reading or not isinstance(value.cutting, Cutting) or not does_fit(sheet, value.cutting):
        return False
    return is_grid_keeping(book, sayings_cut(sheet, value.cutting), value.grid)


def shows_word(book, sheet, stem, ending, word, value):
    """Whether any value is a right SureWord, NeverWord or OpenWord of a word in a cell."""
    check_word(book, sheet, stem, ending, word)
    cuts = cell_cuts(sheet, stem, ending)
    if type(value) is SureWord:
        return _are_for_each(cuts, value.rows) and all([_is_row(book, cut, word, row)
                                                        for cut, row in zip(cuts, value.rows)])
    if type(value) is NeverWord:
        return _are_for_each(cuts, value.trees) and all([_is_refused(book, cut, word, tree)
                                                         for cut, tree in zip(cuts, value.trees)])
    if type(value) is not OpenWord or not all([_is_reading(book, sheet, one) for one in (value.one, value.other)]):
        return False
    one, other = [_word_read(sheet, reading, stem, ending) for reading in (value.one, value.other)]
    return one == tuple(word) and other != tuple(word)


def _are_for_each(cuts, values):
    """Whether it is a list with one value for each cutting."""
    return is_list(values) and len(values) == len(cuts)


def _is_row(book, cut, word, row):
    """Whether trees show that no grid keeps the cutting, or that the word, which agrees, stands in the cell by it."""
    if not is_list(row):
        return False
    if len(row) == 1 and is_tree(book, cut.standing, row[0]):
        return True
    ways = [cut.standing + sayings for sayings in ways_against(book, cut, word)]
    return does_agree(cut, word) and are_trees(book, ways, row)


def _is_refused(book, cut, word, tree):
    """Whether it is None for a word that does not agree, otherwise a tree that shows that it cannot stand."""
    if not does_agree(cut, word):
        return tree is None
    return is_tree(book_for(book, cut, word), cut.standing + sayings_of_word(book, cut, word), tree)


def _word_read(sheet, reading, stem, ending):
    """The word of a cell in a right Reading."""
    cut = CellCut(sheet, reading.cutting, stem, ending)
    row, column = [reading.grid.place(seam) for seam in cut.seams]
    standing = [sign for sign in reading.grid.signs if reading.grid.place(sign) == (row[0], column[1])]
    return word_with(cut, standing[0] if standing else None)
