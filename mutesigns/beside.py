"""Ties: which signs are beside one another, that is alike on a side."""

from mutesigns.books import MOST_SIGNS, Book
from mutesigns.checks import are_names, check_many, check_signs, check_unlike, is_list, is_name, is_word, renames_just
from mutesigns.errors import BadBook, BadTies, BadWord, NoSign, Twice
from mutesigns.facts import Fact
from mutesigns.grids import check_grid
from mutesigns.sayings import Saying, twos_of


class Ties:
    """Signs, and those pairs of them that are beside one another."""

    def __init__(self, signs, pairs):
        if not are_names(signs):
            raise BadTies("signs")
        check_unlike(signs)
        check_many("signs", len(signs), MOST_SIGNS)
        if not _are_pairs(pairs):
            raise BadTies("pairs")
        _check_pairs(pairs, signs)
        self.signs = tuple(sorted(signs))
        self.pairs = tuple(sorted(set([ascending(pair) for pair in pairs])))

    def are_beside(self, one, other):
        """Whether these two signs are beside one another."""
        check_signs([one, other], self.signs)
        check_unlike([one, other])
        return ascending((one, other)) in self.pairs

    def without(self, signs):
        """The Ties of the other signs."""
        if not is_list(signs) or not all([is_name(sign) for sign in signs]):
            raise BadTies("signs")
        check_signs(signs, self.signs)
        check_unlike(signs)
        left = [sign for sign in self.signs if sign not in signs]
        if not left:
            raise BadTies("none")
        return Ties(left, [(one, other) for one, other in self.pairs if one in left and other in left])

    def renamed(self, names):
        """The Ties of the names of its signs."""
        if not renames_just(names, self.signs):
            raise BadBook("names")
        return Ties([names[sign] for sign in self.signs], [(names[one], names[other]) for one, other in self.pairs])

    def __len__(self):
        return len(self.pairs)

    def __eq__(self, other):
        return isinstance(other, Ties) and self.signs == other.signs and self.pairs == other.pairs


def ascending(pair):
    """The pair of two strings with the lesser one first."""
    return (min(pair), max(pair))


def _are_pairs(value):
    """Whether it is a list of pairs of names."""
    return is_list(value) and all([are_names(pair) and len(pair) == 2 for pair in value])


def _check_pairs(pairs, signs):
    """Raises NoSign for the first sign in a pair that is none of these, Twice for the first pair of one sign."""
    for pair in pairs:
        check_signs(pair, signs)
    for pair in pairs:
        check_unlike(pair)


def check_ties(ties):
    """Raises BadTies for what is no Ties."""
    if not isinstance(ties, Ties):
        raise BadTies("ties")


def ties_of(grid):
    """The Ties that the grid has."""
    check_grid(grid)
    return Ties(grid.signs, [(one, other) for one, other in twos_of(grid.signs)
                             if grid.are_alike("row", one, other) or grid.are_alike("column", one, other)])


def spelled(one, other):
    """The ascending pair of the signs at the one place at which two words, equally long, are unlike; otherwise None."""
    if not is_word(one):
        raise BadWord("one")
    if not is_word(other):
        raise BadWord("other")
    unlike = [pair for pair in zip(one, other) if pair[0] != pair[1]]
    return ascending(unlike[0]) if len(one) == len(other) and len(unlike) == 1 else None


def beside_fact(one, other):
    """The Fact that two signs are beside one another."""
    _check_two(one, other)
    return Fact([Saying("column", one, other), Saying("row", one, other)])


def apart_facts(one, other):
    """The pair of the single Facts that two signs are not beside one another, that of columns first."""
    _check_two(one, other)
    return (Fact([Saying("column", one, other, False)]), Fact([Saying("row", one, other, False)]))


def _check_two(one, other):
    """Raises NoSign for the first that is no name, Twice for equal ones."""
    for value in (one, other):
        if not is_name(value):
            raise NoSign(value)
    if one == other:
        raise Twice(other)


def tied_book(signs, beside, apart):
    """The Book of signs with the fact of each pair that is beside, and the two facts of each that is not."""
    if not are_names(signs):
        raise BadBook("signs")
    check_unlike(signs)
    if not _are_pairs(beside):
        raise BadTies("beside")
    if not _are_pairs(apart):
        raise BadTies("apart")
    _check_pairs([*beside, *apart], signs)
    facts = [beside_fact(one, other) for one, other in beside]
    return Book(signs, facts + [fact for one, other in apart for fact in apart_facts(one, other)])
