"""Namings: words thought to be heard ones, what they give, and whether they stand together in a book."""

from mutesigns.books import MOST_SIGNS, check_book
from mutesigns.checks import check_many, check_signs, is_list, is_word
from mutesigns.errors import BadNaming, BadWord, Impossible
from mutesigns.lots import all_lots
from mutesigns.papers import Denial, Paper
from mutesigns.possible import search_kept
from mutesigns.searches import check_sought, grid_where, refusing_tree
from mutesigns.values import Values
from mutesigns.ways import WAYS, check_heard, syllables

MOST_NAMINGS = 6


class Naming:
    """A word of signs, the heard word that it is thought to be, and the way in which this is written."""

    def __init__(self, word, heard, way):
        if not is_word(word):
            raise BadWord("word")
        self.syllables = syllables(heard, way)
        self.word = tuple(word)
        self.heard = heard
        self.way = way

    def __eq__(self, other):
        return isinstance(other, Naming) and _naming_parts(self) == _naming_parts(other)

    def __str__(self):
        return " ".join([*self.word, "=", self.heard, self.way])


class Muddled(Denial):
    """The first muddle of what namings give."""

    def __init__(self, by):
        super().__init__("muddled", by)
        self.by = self.parts[0]


class Stands(Paper):
    """A grid that keeps a book, and that the values given fit."""

    def __init__(self, grid):
        super().__init__("stands", grid)
        self.grid = self.parts[0]


class Barred(Denial):
    """A refusing tree of a book with what the values tell standing besides."""

    def __init__(self, tree):
        super().__init__("barred", tree)
        self.tree = self.parts[0]


class NothingGiven(Paper):
    """For each saying that the values tell a refusing tree with its contrary standing."""

    def __init__(self, trees):
        super().__init__("nothinggiven", trees)
        self.trees = self.parts[0]


class Given(Denial):
    """A saying that the values tell, and a grid that keeps the book in which it does not hold."""

    def __init__(self, saying, grid):
        super().__init__("given", saying, grid)
        self.saying = self.parts[0]
        self.grid = self.parts[1]


class Lots(Paper):
    """The greatest lots of namings that stand, each with a grid, and lots that do not, each with what bars it."""

    def __init__(self, greatest, barred):
        super().__init__("lots", greatest, barred)
        self.greatest = self.parts[0]
        self.barred = self.parts[1]


def _naming_parts(naming):
    """All that tells a naming."""
    return (naming.word, naming.heard, naming.way)


def values_of(namings):
    """The Values that the namings give, or the Muddled."""
    _check_namings(namings)
    check_many("signs", len(set([sign for naming in namings for sign in naming.word])), MOST_SIGNS)
    by = min(muddles_of(namings), default=None)
    return Values(_given(namings)) if by is None else Muddled(by)


def _check_namings(namings):
    """Raises BadNaming for what is no list of one or more Namings."""
    if not is_list(namings) or len(namings) == 0 or not all([isinstance(naming, Naming) for naming in namings]):
        raise BadNaming("namings")


def _given(namings):
    """All pairs of a sign and a value that the namings give, each once, ascending."""
    right = [naming for naming in namings if len(naming.syllables) == len(naming.word)]
    return sorted(set([pair for naming in right for pair in zip(naming.word, naming.syllables)]))


def muddles_of(namings):
    """All muddles of what the namings give."""
    found = [("length", number) for number, naming in enumerate(namings) if len(naming.syllables) != len(naming.word)]
    given = _given(namings)
    twos = [(one, other) for at, one in enumerate(given) for other in given[at + 1:]]
    found = found + [("sign", one[0], one[1], other[1]) for one, other in twos if one[0] == other[0]]
    return found + [("value", one[0], other[0], one[1]) for one, other in twos if one[1] == other[1]]


def check_named(book, namings):
    """Raises the errors of namings that are asked of a book, but Impossible."""
    check_book(book)
    _check_namings(namings)
    for naming in namings:
        check_signs(naming.word, book.signs)
    check_sought(book)
    check_many("namings", len(namings), MOST_NAMINGS)


def stand(book, namings):
    """The Muddled, the Stands or the Barred of the namings together."""
    check_named(book, namings)
    return _stand_in(search_kept(book), namings)


def _stand_in(search, namings):
    """The Muddled, the Stands or the Barred of one or more namings in the book of the search."""
    values = values_of(namings)
    if not isinstance(values, Values):
        return values
    grid = grid_where(search, values.sayings())
    return Barred(refusing_tree(search.book, values.sayings())) if grid is None else Stands(grid)


def ways_for(book, word, heard):
    """The ways by which the naming of this word and this heard word stands alone, in the order of WAYS."""
    check_book(book)
    if not is_word(word):
        raise BadWord("word")
    check_heard(heard)
    check_signs(word, book.signs)
    search = search_kept(book)
    return tuple([way for way in WAYS if isinstance(_stand_in(search, [Naming(word, heard, way)]), Stands)])


def gives_away(book, namings):
    """The NothingGiven, or the Given of the first saying told that is not sure."""
    search, told = _search_standing(book, namings)
    for saying in told:
        grid = grid_where(search, [saying.contrary()])
        if grid is not None:
            return Given(saying, grid)
    return NothingGiven([refusing_tree(book, [saying.contrary()]) for saying in told])


def all_given(book, namings):
    """All sayings told that are not sure, ascending."""
    search, told = _search_standing(book, namings)
    return tuple([saying for saying in told if grid_where(search, [saying.contrary()]) is not None])


def _search_standing(book, namings):
    """The search of a book and the sayings told by namings that stand together in it; raises Impossible if not."""
    check_named(book, namings)
    search = search_kept(book)
    paper = _stand_in(search, namings)
    if not isinstance(paper, Stands):
        raise Impossible(paper)
    return (search, values_of(namings).sayings())


def lots_standing(book, namings):
    """The Lots, with just the barred lots each part of which stands, but it."""
    check_named(book, namings)
    search = search_kept(book)
    standing = {(): grid_where(search, [])}
    barred = []
    for lot in all_lots(len(namings))[1:]:
        if all([part in standing for part in parts_but_one(lot)]):
            paper = _stand_in(search, namings_in(namings, lot))
            if isinstance(paper, Stands):
                standing[lot] = paper.grid
            else:
                barred.append((lot, paper))
    parts = [part for whole in standing for part in parts_but_one(whole)]
    return Lots([(whole, grid) for whole, grid in standing.items() if whole not in parts], barred)


def namings_in(namings, lot):
    """The namings with these numbers."""
    return [namings[number] for number in lot]


def parts_but_one(lot):
    """The lots left when one number is taken out of a lot."""
    return [(*lot[:at], *lot[at + 1:]) for at in range(len(lot))]
