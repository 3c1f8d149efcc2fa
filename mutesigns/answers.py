"""What is sure, never or open over all grids that keep a book."""

from mutesigns.books import check_book
from mutesigns.checks import SIDES
from mutesigns.facts import as_fact, contraries_of
from mutesigns.papers import Denial, Paper
from mutesigns.possible import search_kept
from mutesigns.sayings import Saying, twos_of
from mutesigns.searches import grid_where, tree_where
from mutesigns.standing import check_asked


class Sure(Paper):
    """A refusing tree with the contraries of all sayings of a fact standing besides."""

    def __init__(self, tree):
        super().__init__("sure", tree)
        self.tree = self.parts[0]


class Open(Paper):
    """Two grids that keep a book: a fact holds in one, and does not in the other."""

    def __init__(self, one, other):
        super().__init__("open", one, other)
        self.one = self.parts[0]
        self.other = self.parts[1]


class Never(Denial):
    """For each saying of a fact a refusing tree with this saying standing besides."""

    def __init__(self, trees):
        super().__init__("never", trees)
        self.trees = self.parts[0]


def answer(book, asked):
    """The Sure, the Never or the Open of a Fact, or a Saying, by the book."""
    check_asked(book, asked)
    search = search_kept(book)
    fact = as_fact(asked)
    breaking = grid_where(search, contraries_of(fact))
    if breaking is None:
        return Sure(tree_where(search, contraries_of(fact)))
    for saying in fact.sayings:
        keeping = grid_where(search, [saying])
        if keeping is not None:
            return Open(keeping, breaking)
    return Never([tree_where(search, [saying]) for saying in fact.sayings])


def words_of(book):
    """For each side and each two signs whether it is sure, never or open that they are alike, ascending."""
    check_book(book)
    search = search_kept(book)
    asked = [Saying(side, one, other) for side in SIDES for one, other in twos_of(book.signs)]
    return tuple([(saying.side, saying.one, saying.other, _word_for(search, saying)) for saying in asked])


def _word_for(search, saying):
    """Whether a saying is sure, never or open."""
    if grid_where(search, [saying.contrary()]) is None:
        return "sure"
    return "never" if grid_where(search, [saying]) is None else "open"


def sure_sayings(book):
    """All Sayings that are sure, ascending."""
    words = words_of(book)
    return tuple([Saying(side, one, other, word == "sure") for side, one, other, word in words if word != "open"])
