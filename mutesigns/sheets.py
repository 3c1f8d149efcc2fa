"""Sheets of endings: for each stem and each ending a word, or a gap."""

from mutesigns.checks import are_names, check_many, check_unlike, is_list, is_one_of, is_word
from mutesigns.errors import BadSheet, BadWord, Misfit, NoEnding, NoStem
from mutesigns.texts import Items

MOST_STEMS = 4
MOST_ENDINGS = 4


class Sheet:
    """Stems and endings in an order, and for each two of them a cell: a word, or None for a gap."""

    def __init__(self, stems, endings, cells):
        _check_names("stems", stems)
        _check_names("endings", endings)
        if not _are_cells(cells, len(stems), len(endings)):
            raise BadSheet("cells")
        check_many("stems", len(stems), MOST_STEMS)
        check_many("endings", len(endings), MOST_ENDINGS)
        self.stems = tuple(stems)
        self.endings = tuple(endings)
        self.cells = tuple([tuple([None if word is None else tuple(word) for word in row]) for row in cells])
        self.signs = tuple(sorted(set([sign for row in self.cells for word in row if word for sign in word])))
        self.gaps = tuple([(stem, ending) for stem, row in zip(self.stems, self.cells)
                           for ending, word in zip(self.endings, row) if word is None])

    def word_at(self, stem, ending):
        """The word of this stem and this ending, None for a gap."""
        check_cell(self, stem, ending)
        return self.cells[self.stems.index(stem)][self.endings.index(ending)]

    def with_word(self, stem, ending, word):
        """The Sheet with this word there, whatever stood there."""
        check_cell(self, stem, ending)
        if not is_word(word):
            raise BadWord("word")
        cells = [list(row) for row in self.cells]
        cells[self.stems.index(stem)][self.endings.index(ending)] = word
        return Sheet(self.stems, self.endings, cells)

    def crossed(self):
        """The Sheet with stems and endings exchanged, each word read from behind."""
        cells = [[None if row[at] is None else row[at][::-1] for row in self.cells] for at in range(len(self.endings))]
        return Sheet(self.endings, self.stems, cells)

    def with_sheet(self, other):
        """The Sheet of the stems, endings and words of both, these ones first."""
        if not isinstance(other, Sheet):
            raise BadSheet("other")
        stems = list(self.stems) + [stem for stem in other.stems if stem not in self.stems]
        endings = list(self.endings) + [ending for ending in other.endings if ending not in self.endings]
        cells = []
        for stem in stems:
            cells.append([_word_of_both(self, other, stem, ending) for ending in endings])
        return Sheet(stems, endings, cells)

    @staticmethod
    def read(text):
        """The Sheet of which this is the text."""
        items = Items(text)
        sheet = read_sheet(items)
        items.end()
        return sheet

    def __eq__(self, other):
        return isinstance(other, Sheet) and _sheet_parts(self) == _sheet_parts(other)

    def __str__(self):
        return " ".join(sheet_items(self))


def check_sheet(sheet):
    """Raises BadSheet for what is no Sheet."""
    if not isinstance(sheet, Sheet):
        raise BadSheet("sheet")


def check_cell(sheet, stem, ending):
    """Raises NoStem, NoEnding for what is none of the sheet."""
    if not is_one_of(stem, sheet.stems):
        raise NoStem(stem)
    if not is_one_of(ending, sheet.endings):
        raise NoEnding(ending)


def _check_names(part, names):
    """Raises BadSheet for what is no list of one or more names, Twice for the first that stood ahead."""
    if not are_names(names):
        raise BadSheet(part)
    check_unlike(names)


def _are_cells(cells, many_stems, many_endings):
    """Whether these are cells for so many stems and endings, with a word for each of them."""
    if not is_list(cells) or len(cells) != many_stems:
        return False
    if not all([is_list(row) and len(row) == many_endings and all([_is_cell(word) for word in row]) for row in cells]):
        return False
    return all([_has_word(row) for row in cells]) and all([_has_word(column) for column in zip(*cells)])


def _is_cell(value):
    """Whether it is a word, or None for a gap."""
    return value is None or is_word(value)


def _has_word(cells):
    """Whether some of these cells has a word."""
    return any([word is not None for word in cells])


def _word_of_both(one, other, stem, ending):
    """The word that either sheet has in this cell; raises Misfit for two unlike words."""
    words = [sheet.word_at(stem, ending) for sheet in (one, other) if stem in sheet.stems and ending in sheet.endings]
    told = [word for word in words if word is not None]
    if len(told) == 2 and told[0] != told[1]:
        raise Misfit("cells")
    return told[0] if told else None


def _sheet_parts(sheet):
    """All that tells a sheet."""
    return (sheet.stems, sheet.endings, sheet.cells)


def word_item(word):
    """The item of a word."""
    return "+".join(word)


def sheet_items(sheet):
    """The items of its text."""
    cells = ["-" if word is None else word_item(word) for row in sheet.cells for word in row]
    return [*sheet.stems, "/", *sheet.endings, ":", *cells]


def read_sheet(items):
    """Reads a Sheet."""
    stems = _read_names(items, MOST_STEMS, "/")
    items.take_word("/")
    endings = _read_names(items, MOST_ENDINGS, ":")
    items.take_word(":")
    cells = []
    for _ in stems:
        cells.append(_read_row(items, cells, len(stems), len(endings)))
    return Sheet(stems, endings, cells)


def _read_names(items, most, mark):
    """Reads one or more unlike names, at most so many, as far as the mark behind them."""
    names = [items.take_unlike([])]
    while len(names) < most and items.ahead() != mark:
        names.append(items.take_unlike(names))
    return names


def _read_row(items, ahead, many_stems, many_endings):
    """Reads the cells of a stem behind the rows ahead; the last cell of a stem or an ending may want a word."""
    row = []
    for at in range(many_endings):
        is_wanted = at == many_endings - 1 and not _has_word(row)
        if len(ahead) == many_stems - 1 and not _has_word([other[at] for other in ahead]):
            is_wanted = True
        row.append(_read_cell(items, is_wanted))
    return row


def _read_cell(items, is_wanted):
    """Reads a word, or `-` for a gap unless a word is wanted."""
    if items.ahead() == "-" and not is_wanted:
        items.take_word("-")
        return None
    return items.take_signs()
