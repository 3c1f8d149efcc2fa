"""Sayings: two different signs that on a side are alike, or apart."""

from mutesigns.checks import is_list, is_name, is_renaming, is_side, is_truth
from mutesigns.errors import BadSaying, BadSide, Twice
from mutesigns.texts import Items


class Saying:
    """That two signs are alike, or apart, on a side."""

    def __init__(self, side, one, other, alike=True):
        if not is_side(side):
            raise BadSide("side")
        if not is_name(one):
            raise BadSaying("one")
        if not is_name(other):
            raise BadSaying("other")
        if not is_truth(alike):
            raise BadSaying("alike")
        if one == other:
            raise Twice(other)
        self.side = side
        self.one = min(one, other)
        self.other = max(one, other)
        self.alike = alike

    def contrary(self):
        """The Saying that tells apart for alike, or the other way round."""
        return Saying(self.side, self.one, self.other, not self.alike)

    def crossed(self):
        """The Saying of the other side."""
        return Saying(other_side(self.side), self.one, self.other, self.alike)

    def renamed(self, names):
        """The Saying of the names of its signs."""
        if not is_renaming(names) or self.one not in names or self.other not in names:
            raise BadSaying("names")
        return Saying(self.side, names[self.one], names[self.other], self.alike)

    @staticmethod
    def read(text):
        """The Saying of which this is the text."""
        items = Items(text)
        saying = read_saying(items, None)
        items.end()
        return saying

    def __eq__(self, other):
        return isinstance(other, Saying) and saying_order(self) == saying_order(other)

    def __str__(self):
        return " ".join(saying_items(self))


def other_side(side):
    """The side that is not this one."""
    return "column" if side == "row" else "row"


def saying_order(saying):
    """The tuple by which sayings are ordered."""
    return (saying.side, saying.one, saying.other, saying.alike)


def saying_items(saying):
    """The items of its text."""
    told = [saying.side, saying.one, saying.other]
    return told if saying.alike else ["not"] + told


def read_saying(items, signs):
    """Reads a Saying; of these signs, where they are not None."""
    alike = items.ahead() != "not"
    if not alike:
        items.take_word("not")
    side = items.take(is_side(items.ahead()))
    one = items.take_sign("", signs)
    return Saying(side, one, items.take_sign(one, signs), alike)


def are_sayings(value):
    """Whether it is a list or tuple of Sayings, perhaps of none."""
    return is_list(value) and all([isinstance(one, Saying) for one in value])


def signs_told(sayings):
    """The signs of the sayings, saying by saying, the lesser one first, as often as they are told."""
    return [sign for saying in sayings for sign in (saying.one, saying.other)]


def twos_of(signs):
    """All pairs of ascending signs, one less than other, ascending."""
    return [(one, other) for at, one in enumerate(signs) for other in signs[at + 1:]]
