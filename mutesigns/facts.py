"""Facts: one to four sayings of which one at least holds."""

from mutesigns.checks import again_at, check_many, is_renaming
from mutesigns.errors import BadFact, Twice
from mutesigns.sayings import Saying, are_sayings, read_saying, saying_items, saying_order, signs_told
from mutesigns.texts import Items

MOST_IN_FACT = 4


class Fact:
    """That one at least of its sayings holds."""

    def __init__(self, sayings):
        if not are_sayings(sayings) or len(sayings) == 0:
            raise BadFact("sayings")
        twice_at = again_at([saying_order(saying) for saying in sayings])
        if twice_at is not None:
            raise Twice(sayings[twice_at])
        check_many("sayings", len(sayings), MOST_IN_FACT)
        self.sayings = tuple(sorted(sayings, key=saying_order))
        self.signs = tuple(sorted(set(signs_told(sayings))))
        self.is_single = len(sayings) == 1

    def crossed(self):
        """The Fact with rows and columns exchanged."""
        return Fact([saying.crossed() for saying in self.sayings])

    def renamed(self, names):
        """The Fact of the names of its signs."""
        if not is_renaming(names) or not all([sign in names for sign in self.signs]):
            raise BadFact("names")
        return Fact([saying.renamed(names) for saying in self.sayings])

    @staticmethod
    def read(text):
        """The Fact of which this is the text."""
        items = Items(text)
        fact = read_fact(items, None, MOST_IN_FACT)
        items.end()
        return fact

    def __len__(self):
        return len(self.sayings)

    def __eq__(self, other):
        return isinstance(other, Fact) and self.sayings == other.sayings

    def __str__(self):
        return " ".join(fact_items(self))


def as_fact(value):
    """The Fact that is passed, or that of a Saying alone; None for any other value."""
    if isinstance(value, Saying):
        return Fact([value])
    return value if isinstance(value, Fact) else None


def contraries_of(fact):
    """The contraries of all its sayings: they hold just in the grids that do not keep it."""
    return [saying.contrary() for saying in fact.sayings]


def fact_items(fact):
    """The items of its text."""
    told = [item for saying in fact.sayings for item in ["or"] + saying_items(saying)]
    return told[1:]


def read_fact(items, signs, most):
    """Reads a Fact of at most so many sayings, of these signs where they are not None.

    An `or` behind the last saying that may be is left, for whoever reads on to refuse it.
    """
    sayings = [read_saying(items, signs)]
    while len(sayings) < most and items.ahead() == "or":
        items.take_word("or")
        saying = read_saying(items, signs)
        if saying_order(saying) <= saying_order(sayings[-1]):
            items.refuse_last()
        sayings.append(saying)
    return Fact(sayings)
