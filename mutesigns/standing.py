"""What stands: the sayings of the single facts of a book and others besides, and what they join."""

from mutesigns.books import check_book
from mutesigns.checks import check_side, check_signs
from mutesigns.errors import BadFact, BadSaying
from mutesigns.facts import as_fact
from mutesigns.sayings import are_sayings, signs_told


def check_standing(book, sayings):
    """Raises the errors of a book and of further sayings of its signs."""
    check_book(book)
    if not are_sayings(sayings):
        raise BadSaying("sayings")
    check_signs(signs_told(sayings), book.signs)


def check_asked_two(book, sayings, side, one, other):
    """Raises the errors of what is asked of two signs of a book and further sayings, on a side."""
    check_standing(book, sayings)
    check_side(side)
    check_signs([one, other], book.signs)


def check_asked(book, asked):
    """Raises the errors of a Fact, or a Saying, that is asked of a book."""
    check_book(book)
    fact = as_fact(asked)
    if fact is None:
        raise BadFact("asked")
    check_signs(signs_told(fact.sayings), book.signs)


def standing(book, sayings):
    """The list of all sayings that stand with the book and these sayings."""
    return [*book.single, *sayings]


def joined_lots(signs, told, side):
    """The joined lots of a side, ascending tuples, ascending, where the sayings told stand."""
    lots = [(sign,) for sign in signs]
    for saying in told:
        if saying.side == side and saying.alike:
            lots = _made_one(lots, saying.one, saying.other)
    return tuple(sorted(lots))


def _made_one(lots, one, other):
    """The lots, those with one or other put together."""
    kept = [lot for lot in lots if one not in lot and other not in lot]
    joined = [sign for lot in lots if one in lot or other in lot for sign in lot]
    return [*kept, tuple(sorted(joined))]


def lot_with(lots, sign):
    """The lot that has this sign."""
    return [lot for lot in lots if sign in lot][0]
