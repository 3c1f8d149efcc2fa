"""What cuttings of a sheet tell of one of its cells: which words can agree, and what they say."""

from mutesigns.cuttings import cuttings, sayings_cut, seams_of_cell
from mutesigns.sayings import Saying


class CellCut:
    """A cutting that fits, its sayings, and of a cell the body, the two seams and the tail."""

    def __init__(self, sheet, cutting, stem, ending):
        row, column = sheet.stems.index(stem), sheet.endings.index(ending)
        mine = [word for word in sheet.cells[row] if word is not None][0]
        its = [cells[column] for cells in sheet.cells if cells[column] is not None][0]
        self.cutting = cutting
        self.begin = mine[:cutting.bodies[row]]
        self.end = its[len(its) - cutting.tails[column]:]
        self.seams = seams_of_cell(sheet, cutting, stem, ending)
        self.standing = sayings_cut(sheet, cutting)


def cell_cuts(sheet, stem, ending):
    """What each cutting that fits tells of this cell, in order."""
    return [CellCut(sheet, cutting, stem, ending) for cutting in cuttings(sheet)]


def word_with(cut, sign):
    """The word with this sign, or None for a new one, between body and tail."""
    return (*cut.begin, sign, *cut.end)


def does_agree(cut, word):
    """Whether the word agrees with the cutting in the cell."""
    at = len(cut.begin)
    return len(word) == at + 1 + len(cut.end) and tuple(word) == word_with(cut, word[at])


def sign_between(cut, word):
    """The sign, or None, that a word that agrees has between body and tail."""
    return word[len(cut.begin)]


def sayings_with(cut, sign):
    """The sayings of the word with this sign: that it begins like the first seam, then that it ends like the second."""
    first, second = cut.seams
    told = [] if sign == first else [Saying("row", sign, first)]
    return told if sign == second else told + [Saying("column", sign, second)]


def new_sign(book):
    """The first of n0, n1, n2, .. that is no sign of the book."""
    names = ["n" + str(number) for number in range(len(book.signs) + 1)]
    return [name for name in names if name not in book.signs][0]


def sayings_of_word(book, cut, word):
    """The sayings of a word that agrees, those of the new sign for None."""
    sign = sign_between(cut, word)
    return sayings_with(cut, new_sign(book) if sign is None else sign)


def ways_against(book, cut, word):
    """Lists of sayings, one of which all hold, besides those of the cutting, just if another word stands in the cell.

    A word that does not agree is another one in any case; for None some sign of the book stands in the place.
    """
    if not does_agree(cut, word):
        return [[]]
    sign = sign_between(cut, word)
    if sign is None:
        return [sayings_with(cut, one) for one in book.signs]
    return [[saying.contrary()] for saying in sayings_with(cut, sign)]
