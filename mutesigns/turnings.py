"""Turnings: names given for signs, with rows and columns exchanged or not, and what is made so of books and grids."""

from mutesigns.books import MOST_SIGNS, Book, check_book
from mutesigns.checks import again_at, check_many, is_name, is_truth
from mutesigns.errors import BadBook, BadTurning, Misfit, NoSign, Twice
from mutesigns.facts import Fact, contraries_of
from mutesigns.grids import Grid
from mutesigns.papers import Denial, Paper
from mutesigns.possible import search_kept
from mutesigns.sayings import Saying
from mutesigns.searches import MOST_SOUGHT, grid_where, refusing_tree


class Turning:
    """For each of some signs a name, no two the same one, and whether rows and columns are exchanged."""

    def __init__(self, names, is_crossed=False):
        if not isinstance(names, dict) or len(names) == 0 or not all([is_name(sign) for sign in names]):
            raise BadTurning("names")
        if not all([is_name(name) for name in names.values()]):
            raise BadTurning("names")
        pairs = [(sign, names[sign]) for sign in sorted(names)]
        twice_at = again_at([name for sign, name in pairs])
        if twice_at is not None:
            raise Twice(pairs[twice_at][1])
        if not is_truth(is_crossed):
            raise BadTurning("is_crossed")
        check_many("signs", len(pairs), MOST_SIGNS)
        self.pairs = tuple(pairs)
        self.is_crossed = is_crossed

    def made(self, value):
        """What it makes of a Saying, a Fact, a Book or a Grid."""
        signs = _signs_of(value)
        if signs is None:
            raise BadTurning("value")
        names = dict(self.pairs)
        _check_named(signs, names)
        renamed = value.renamed({sign: names[sign] for sign in signs})
        return renamed.crossed() if self.is_crossed else renamed

    def back(self):
        """The Turning that leads back."""
        return Turning({name: sign for sign, name in self.pairs}, self.is_crossed)

    def then(self, other):
        """The Turning that does what this one does and then what the other does."""
        if not isinstance(other, Turning):
            raise BadTurning("other")
        names = dict(other.pairs)
        _check_named([name for sign, name in self.pairs], names)
        return Turning({sign: names[name] for sign, name in self.pairs}, self.is_crossed != other.is_crossed)

    def __eq__(self, other):
        return isinstance(other, Turning) and self.pairs == other.pairs and self.is_crossed == other.is_crossed


def _signs_of(value):
    """The ascending signs of a Saying, a Fact, a Book or a Grid, None for any other value."""
    if isinstance(value, Saying):
        return (value.one, value.other)
    if isinstance(value, Fact) or isinstance(value, Book) or isinstance(value, Grid):
        return value.signs
    return None


def _check_named(signs, names):
    """Raises NoSign for the first of the signs that is not named."""
    for sign in signs:
        if sign not in names:
            raise NoSign(sign)


class Leads(Paper):
    """For each fact of one book a tree that shows that what is made of it is sure in the other, and so back."""

    def __init__(self, trees, back):
        super().__init__("leads", trees, back)
        self.trees = self.parts[0]
        self.back = self.parts[1]


class Astray(Denial):
    """A grid that keeps one of two books, of which one is made that does not keep the other."""

    def __init__(self, grid, is_back):
        super().__init__("astray", grid, is_back)
        self.grid = self.parts[0]
        self.is_back = self.parts[1]


def leads(turning, book, other):
    """The Leads or the Astray of a turning from a book to another one."""
    check_led(turning, book, other)
    for one in (book, other):
        check_many("signs", len(one.signs), MOST_SOUGHT)
    search, search_other = search_kept(book), search_kept(other)
    for told in led_lots(turning, book):
        grid = grid_where(search_other, told)
        if grid is not None:
            return Astray(grid, True)
    for told in led_lots(turning.back(), other):
        grid = grid_where(search, told)
        if grid is not None:
            return Astray(grid, False)
    trees, back = led_trees(turning, book, other)
    return Leads(trees, back)


def check_led(turning, book, other):
    """Raises the errors of a turning that is asked whether it leads a book to another one, but those told last."""
    if not isinstance(turning, Turning):
        raise BadTurning("turning")
    check_two_books(book, other)
    if not does_name(turning, book, other):
        raise Misfit("signs")
    if bounds_made(book, turning.is_crossed) != (other.most_rows, other.most_columns):
        raise Misfit("bounds")


def check_two_books(book, other):
    """Raises BadBook for what is none."""
    check_book(book)
    if not isinstance(other, Book):
        raise BadBook("other")


def does_name(turning, book, other):
    """Whether a Turning names just the signs of a book, and gives as names just the signs of the other."""
    signs = [sign for sign, name in turning.pairs]
    return signs == list(book.signs) and sorted([name for sign, name in turning.pairs]) == list(other.signs)


def bounds_made(book, is_crossed):
    """The pair of the most rows and the most columns that a turning, crossed or not, makes of those of a book."""
    return (book.most_columns, book.most_rows) if is_crossed else (book.most_rows, book.most_columns)


def led_lots(turning, book):
    """For each fact of the book the contraries of all sayings of the fact that is made of it."""
    return [contraries_of(turning.made(fact)) for fact in book.facts]


def led_trees(turning, book, other):
    """The trees of a turning that leads a book to another one, and those of its way back."""
    trees = [refusing_tree(other, told) for told in led_lots(turning, book)]
    return (trees, [refusing_tree(book, told) for told in led_lots(turning.back(), other)])
