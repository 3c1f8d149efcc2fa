"""Which words can stand in the gaps of a sheet, over all cuttings that fit it and all grids that keep a book."""

from mutesigns.books import check_book
from mutesigns.cell_cuts import cell_cuts, does_agree, new_sign, sayings_of_word, sign_between
from mutesigns.cell_cuts import ways_against, word_with
from mutesigns.checks import check_many, check_signs, is_list, is_name
from mutesigns.cuttings import cuttings, sayings_cut
from mutesigns.errors import BadWord, Impossible
from mutesigns.listing import part_of
from mutesigns.papers import Denial, Paper
from mutesigns.searches import Search, grid_where, refusing_tree
from mutesigns.sheets import check_cell, check_sheet

LONGEST_WORD = 11


class Reading(Paper):
    """A cutting that fits a sheet, and a grid that keeps a book and the sayings of the cutting."""

    def __init__(self, cutting, grid):
        super().__init__("reading", cutting, grid)
        self.cutting = self.parts[0]
        self.grid = self.parts[1]


class SureWord(Paper):
    """For each cutting a row of trees that show that no other word stands in a cell."""

    def __init__(self, rows):
        super().__init__("sureword", rows)
        self.rows = self.parts[0]


class OpenWord(Paper):
    """Two Readings: a cell has the word in one, another word in the other."""

    def __init__(self, one, other):
        super().__init__("openword", one, other)
        self.one = self.parts[0]
        self.other = self.parts[1]


class NoReading(Denial):
    """For each cutting a refusing tree of the book with the sayings of the cutting."""

    def __init__(self, trees):
        super().__init__("noreading", trees)
        self.trees = self.parts[0]


class NeverWord(Denial):
    """For each cutting None if the word does not agree with it, otherwise a refusing tree."""

    def __init__(self, trees):
        super().__init__("neverword", trees)
        self.trees = self.parts[0]


def reading_of(book, sheet):
    """The Reading with the first cutting that has one, or the NoReading."""
    check_reading(book, sheet)
    search = Search(book)
    for cutting in cuttings(sheet):
        grid = grid_where(search, sayings_cut(sheet, cutting))
        if grid is not None:
            return Reading(cutting, grid)
    return NoReading([refusing_tree(book, sayings_cut(sheet, one)) for one in cuttings(sheet)])


def words_in(book, sheet, stem, ending):
    """All words that can stand in the cell, by cuttings, then by signs, the new one last; each where it first comes."""
    check_book(book)
    check_sheet(sheet)
    check_cell(sheet, stem, ending)
    _check_read(book, sheet, ())
    search = GapSearch(book)
    words = {}
    for cut in cell_cuts(sheet, stem, ending):
        for sign in (*book.signs, None):
            if _grid_with(search, cut, word_with(cut, sign)) is not None:
                words[word_with(cut, sign)] = True
    if not words:
        raise Impossible(reading_of(book, sheet))
    return tuple(words)


def word_for(book, sheet, stem, ending, word):
    """The SureWord, the NeverWord or the OpenWord of a word in a cell."""
    check_word(book, sheet, stem, ending, word)
    search, cuts = GapSearch(book), cell_cuts(sheet, stem, ending)
    told = [_reading_with(search, cut, word) for cut in cuts]
    others = [_reading_against(search, cut, word) for cut in cuts]
    one, other = _first_reading(told), _first_reading(others)
    if one is None and other is None:
        raise Impossible(reading_of(book, sheet))
    if one is None:
        return NeverWord([_tree_with(book, cut, word) for cut in cuts])
    if other is None:
        return SureWord([_trees_against(search, cut, word) for cut in cuts])
    return OpenWord(one, other)


def check_reading(book, sheet):
    """Raises the errors of a book and a sheet that are read together, but Impossible."""
    check_book(book)
    check_sheet(sheet)
    _check_read(book, sheet, ())


def check_word(book, sheet, stem, ending, word):
    """Raises the errors of a word that is asked for a cell, but Impossible."""
    check_book(book)
    check_sheet(sheet)
    check_cell(sheet, stem, ending)
    if not _is_gap_word(word):
        raise BadWord("word")
    _check_read(book, sheet, [sign for sign in word if sign is not None])


def _is_gap_word(value):
    """Whether it is a list of 1 to 11 names, one of which may be None."""
    if not is_list(value) or not 1 <= len(value) <= LONGEST_WORD:
        return False
    names = [sign for sign in value if sign is not None]
    return len(names) >= len(value) - 1 and all([is_name(sign) for sign in names])


def _check_read(book, sheet, signs):
    """Raises NoSign for the first sign of the sheet, then of these, that the book lacks; then TooMany."""
    for row in sheet.cells:
        for word in row:
            check_signs(() if word is None else word, book.signs)
    check_signs(signs, book.signs)
    check_many("signs", len(book.signs), 7 if book.is_plain else 5)
    cuttings(sheet)


class GapSearch:
    """A book and the book with its new sign as one sign more, to be searched."""

    def __init__(self, book):
        self.book = book
        self.own = Search(book)
        self.wider = Search(book.with_sign(new_sign(book)))


def _grid_with(search, cut, word):
    """The grid of a reading by the cutting with this word, one that agrees, in the cell; None if there is none."""
    told = cut.standing + sayings_of_word(search.book, cut, word)
    if sign_between(cut, word) is not None:
        return grid_where(search.own, told)
    grid = grid_where(search.wider, told)
    return None if grid is None else part_of(grid, search.book.signs)


def _reading_with(search, cut, word):
    """A Reading by the cutting with the word in the cell, None if there is none."""
    grid = _grid_with(search, cut, word) if does_agree(cut, word) else None
    return None if grid is None else Reading(cut.cutting, grid)


def _reading_against(search, cut, word):
    """A Reading by the cutting with another word in the cell, None if there is none."""
    for sayings in ways_against(search.book, cut, word):
        grid = grid_where(search.own, cut.standing + sayings)
        if grid is not None:
            return Reading(cut.cutting, grid)
    return None


def _first_reading(readings):
    """The first of these that is not None, None if there is none."""
    found = [reading for reading in readings if reading is not None]
    return found[0] if found else None


def _tree_with(book, cut, word):
    """A refusing tree that shows that the word cannot stand in the cell by the cutting; None if it does not agree."""
    if not does_agree(cut, word):
        return None
    return refusing_tree(book_for(book, cut, word), cut.standing + sayings_of_word(book, cut, word))


def book_for(book, cut, word):
    """The book of the trees of a word that agrees: with the new sign as one sign more for None."""
    return book.with_sign(new_sign(book)) if sign_between(cut, word) is None else book


def _trees_against(search, cut, word):
    """Refusing trees that show that no other word can stand in the cell by the cutting."""
    if grid_where(search.own, cut.standing) is None:
        return [refusing_tree(search.book, cut.standing)]
    return [refusing_tree(search.book, cut.standing + sayings) for sayings in ways_against(search.book, cut, word)]
