"""Values of signs: which syllables some signs stand for."""

from mutesigns.books import MOST_SIGNS
from mutesigns.checks import SIDES, check_many, check_signs, is_list, is_name
from mutesigns.errors import BadValue, NoSign, Twice
from mutesigns.grids import check_grid
from mutesigns.sayings import Saying, twos_of
from mutesigns.ways import consonant_of, is_value, vowel_of


class Values:
    """Some signs and for each a value, no two the same one."""

    def __init__(self, pairs):
        if not is_list(pairs) or len(pairs) == 0 or not all([_is_pair(pair) for pair in pairs]):
            raise BadValue("pairs")
        _check_pairs(pairs)
        check_many("signs", len(pairs), MOST_SIGNS)
        self.pairs = tuple(sorted([tuple(pair) for pair in pairs]))
        self.signs = tuple([sign for sign, value in self.pairs])

    def value(self, sign):
        """The value of this sign."""
        check_signs([sign], self.signs)
        return dict(self.pairs)[sign]

    def sayings(self):
        """All Sayings that they tell, ascending."""
        told = dict(self.pairs)
        twos = [(side, one, other) for side in SIDES for one, other in twos_of(self.signs)]
        return tuple([Saying(side, one, other, letter_on(side, told[one]) == letter_on(side, told[other]))
                      for side, one, other in twos])

    def fits(self, grid):
        """Whether they fit the grid: all that they tell holds in it."""
        check_grid(grid)
        for sign in self.signs:
            if sign not in grid.signs:
                raise NoSign(sign)
        return all([grid.holds(saying) for saying in self.sayings()])

    def __eq__(self, other):
        return isinstance(other, Values) and self.pairs == other.pairs

    def __str__(self):
        return " / ".join([sign + " " + value for sign, value in self.pairs])


def _is_pair(value):
    """Whether it is a pair of a sign and a value."""
    return is_list(value) and len(value) == 2 and is_name(value[0]) and is_value(value[1])


def _check_pairs(pairs):
    """Raises Twice for the first sign or value that stood ahead, pair by pair, its sign first."""
    signs = set()
    values = set()
    for sign, value in pairs:
        if sign in signs:
            raise Twice(sign)
        if value in values:
            raise Twice(value)
        signs.add(sign)
        values.add(value)


def letter_on(side, value):
    """What a value has on a side: its consonant, or its vowel."""
    return consonant_of(value) if side == "row" else vowel_of(value)
