"""Whether some grid keeps a book."""

from mutesigns.books import check_book
from mutesigns.checks import check_many
from mutesigns.errors import Impossible
from mutesigns.listing import listed_grids
from mutesigns.papers import Denial, Paper
from mutesigns.searches import Search, check_sought, grid_where, refusing_tree, tree_where


class Kept(Paper):
    """A grid that keeps a book."""

    def __init__(self, grid):
        super().__init__("kept", grid)
        self.grid = self.parts[0]


class NoGrid(Denial):
    """A refusing tree of a book that no grid keeps."""

    def __init__(self, tree):
        super().__init__("nogrid", tree)
        self.tree = self.parts[0]


def grid_of(book):
    """The Kept of a grid that keeps the book, or the NoGrid of a refusing tree."""
    check_book(book)
    check_sought(book)
    search = Search(book)
    grid = grid_where(search, [])
    return NoGrid(tree_where(search, [])) if grid is None else Kept(grid)


def listed_kept(book, most):
    """All grids that keep a Book; raises TooMany as listed_within, Impossible if no grid keeps it."""
    listed = listed_within(book, most)
    check_listed(listed, book)
    return listed


def listed_within(book, most):
    """All grids that keep a Book, perhaps none; raises TooMany for more signs than are listed, or more grids than most.

    None for most is no bound.
    """
    listed = listed_grids(book)
    if most is not None:
        check_many("grids", len(listed.masks), most)
    return listed


def check_listed(listed, book):
    """Raises Impossible if no grid that keeps the book is listed."""
    if not listed.masks:
        raise Impossible(NoGrid(refusing_tree(book, [])))


def search_kept(book):
    """The Search of a Book; raises TooMany for one that is not sought, Impossible for one that no grid keeps."""
    check_sought(book)
    search = Search(book)
    tree = tree_where(search, [])
    if tree is not None:
        raise Impossible(NoGrid(tree))
    return search
