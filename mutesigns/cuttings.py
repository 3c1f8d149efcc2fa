"""Cuttings: how many signs the bodies of the stems and the tails of the endings of a sheet have."""

from mutesigns.checks import check_many, is_list, is_within
from mutesigns.errors import BadCutting, Misfit
from mutesigns.sayings import Saying, twos_of
from mutesigns.sheets import check_cell, check_sheet

LONGEST = 5
MOST_CUTTINGS = 36


class Cutting:
    """For each stem the length of its body, for each ending the length of its tail."""

    def __init__(self, bodies, tails):
        if not _are_lengths(bodies):
            raise BadCutting("bodies")
        if not _are_lengths(tails):
            raise BadCutting("tails")
        self.bodies = tuple(bodies)
        self.tails = tuple(tails)

    def __eq__(self, other):
        return isinstance(other, Cutting) and self.bodies == other.bodies and self.tails == other.tails


def _are_lengths(value):
    """Whether it is a list of one or more lengths of bodies or tails."""
    return is_list(value) and len(value) > 0 and all([is_within(length, 0, LONGEST) for length in value])


def cuttings(sheet):
    """All Cuttings that fit the sheet, in order."""
    check_sheet(sheet)
    ways = [_ways_to_cut(sheet, lot) for lot in tied_lots(sheet)]
    many = 1
    for told in ways:
        many = many * len(told)
    check_many("cuttings", many, MOST_CUTTINGS)
    found = [{}]
    for told in ways:
        found = [{**ahead, **more} for ahead in found for more in told]
    pairs = [(tuple([lengths[("body", stem)] for stem in sheet.stems]),
              tuple([lengths[("tail", ending)] for ending in sheet.endings])) for lengths in found]
    return tuple([Cutting(bodies, tails) for bodies, tails in sorted(pairs)])


def tied_lots(sheet):
    """The tied lots of the sheet: of each the tuple of its cells, stem by stem, the lots by their first cells."""
    check_sheet(sheet)
    cells = _cells_with_words(sheet)
    lots = []
    for cell in cells:
        tied = [lot for lot in lots if any([_are_tied(cell, other) for other in lot])]
        lots = [lot for lot in lots if lot not in tied] + [[other for lot in tied for other in lot] + [cell]]
    told = [tuple([one for one in cells if one in lot]) for lot in lots]
    return tuple([lot for one in cells for lot in told if lot[0] == one])


def _cells_with_words(sheet):
    """The cells that have words, pairs (stem, ending), stem by stem."""
    cells = [(stem, ending) for stem in sheet.stems for ending in sheet.endings]
    return [cell for cell in cells if cell not in sheet.gaps]


def _are_tied(one, other):
    """Whether two cells with words have one stem or one ending."""
    return one[0] == other[0] or one[1] == other[1]


def _ways_to_cut(sheet, lot):
    """All ways to cut a tied lot: dicts of the lengths of ("body", stem) and ("tail", ending)."""
    ways = [_settled(sheet, lot, body) for body in range(LONGEST + 1)]
    return [lengths for lengths in ways if _are_cut(sheet, lot, lengths)]


def _settled(sheet, lot, body):
    """The lengths of all bodies and tails of a tied lot that the first body settles, whether or not they fit."""
    lengths = {("body", lot[0][0]): body}
    for _ in lot:
        for stem, ending in lot:
            left = len(sheet.word_at(stem, ending)) - 1
            one, other = ("body", stem), ("tail", ending)
            if one in lengths and other not in lengths:
                lengths[other] = left - lengths[one]
            elif other in lengths and one not in lengths:
                lengths[one] = left - lengths[other]
    return lengths


def _are_cut(sheet, cells, lengths):
    """Whether the words of these cells have these bodies and tails, each stem one body, each ending one tail."""
    begins = {}
    ends = {}
    for stem, ending in cells:
        word = sheet.word_at(stem, ending)
        body, tail = lengths[("body", stem)], lengths[("tail", ending)]
        if body < 0 or tail < 0 or body + 1 + tail != len(word):
            return False
        if begins.setdefault(stem, word[:body]) != word[:body]:
            return False
        if ends.setdefault(ending, word[body + 1:]) != word[body + 1:]:
            return False
    return True


def does_fit(sheet, cutting):
    """Whether a Cutting fits a Sheet."""
    if len(cutting.bodies) != len(sheet.stems) or len(cutting.tails) != len(sheet.endings):
        return False
    lengths = {("body", stem): body for stem, body in zip(sheet.stems, cutting.bodies)}
    for ending, tail in zip(sheet.endings, cutting.tails):
        lengths[("tail", ending)] = tail
    return _are_cut(sheet, _cells_with_words(sheet), lengths)


def seams(sheet, cutting):
    """The seams of all words, (stem, ending, sign), stem by stem."""
    _check_cutting(sheet, cutting)
    _check_fit(sheet, cutting)
    return tuple(seams_cut(sheet, cutting))


def sayings_by(sheet, cutting):
    """The sayings of the cutting, ascending."""
    _check_cutting(sheet, cutting)
    _check_fit(sheet, cutting)
    return tuple(sayings_cut(sheet, cutting))


def seams_at(sheet, cutting, stem, ending):
    """The two seams of this cell: that of the first word of its stem, and that of the first word of its ending."""
    _check_cutting(sheet, cutting)
    check_cell(sheet, stem, ending)
    _check_fit(sheet, cutting)
    return seams_of_cell(sheet, cutting, stem, ending)


def _check_cutting(sheet, cutting):
    """Raises BadSheet, BadCutting for what is none."""
    check_sheet(sheet)
    if not isinstance(cutting, Cutting):
        raise BadCutting("cutting")


def _check_fit(sheet, cutting):
    """Raises Misfit for a Cutting that does not fit the Sheet."""
    if not does_fit(sheet, cutting):
        raise Misfit("cutting")


def seams_cut(sheet, cutting):
    """The list of the seams of all words by a cutting that fits, (stem, ending, sign), stem by stem."""
    found = []
    for stem, ending in _cells_with_words(sheet):
        body = cutting.bodies[sheet.stems.index(stem)]
        found.append((stem, ending, sheet.word_at(stem, ending)[body]))
    return found


def sayings_cut(sheet, cutting):
    """The list of the sayings of a cutting that fits, each once, ascending."""
    told = seams_cut(sheet, cutting)
    rows = [_twos_among([sign for mine, ending, sign in told if mine == stem]) for stem in sheet.stems]
    columns = [_twos_among([sign for stem, mine, sign in told if mine == ending]) for ending in sheet.endings]
    twos = [("row", *two) for lot in rows for two in lot] + [("column", *two) for lot in columns for two in lot]
    return [Saying(side, one, other) for side, one, other in sorted(set(twos))]


def _twos_among(signs):
    """All pairs of unlike ones of these signs, one less than other."""
    return twos_of(sorted(set(signs)))


def seams_of_cell(sheet, cutting, stem, ending):
    """The two seams of a cell by a cutting that fits."""
    told = seams_cut(sheet, cutting)
    first = [sign for mine, its, sign in told if mine == stem][0]
    return (first, [sign for its, mine, sign in told if mine == ending][0])
