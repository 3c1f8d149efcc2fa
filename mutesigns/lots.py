"""Lots: ascending tuples of numbers, or of signs, those with fewer first."""

from itertools import combinations

from mutesigns.checks import is_numbers


def sized(values, size):
    """All tuples of so many of the ascending values, ascending."""
    return list(combinations(values, size))


def lots_sized(many, size):
    """All lots of so many of the numbers below many, in order."""
    return sized(list(range(many)), size)


def lots_fewer(many, size):
    """All lots with one number fewer than size, of the numbers below many; none if size is 0."""
    return [] if size == 0 else lots_sized(many, size - 1)


def all_lots(many):
    """All lots of the numbers below many, in order."""
    return [lot for size in range(many + 1) for lot in lots_sized(many, size)]


def is_lot(value, many):
    """Whether it is a list of numbers below many that ascend."""
    if not is_numbers(value) or list(value) != sorted(set(value)):
        return False
    return all([0 <= number < many for number in value])


def rest_of(lot, many):
    """The lot of all other numbers below many."""
    return tuple([number for number in range(many) if number not in lot])


def are_apart(one, other):
    """Whether two lots have no number in common."""
    return not any([number in other for number in one])


def is_part(lot, whole):
    """Whether a lot has no number that the whole one has not."""
    return all([number in whole for number in lot])


def lot_order(lot):
    """The pair by which lots are ordered: fewer numbers first, equally many as tuples."""
    return (len(lot), lot)


def none_to_spare(lots):
    """Those of the lots of which no lot is left, in these lots, when one number is taken out."""
    told = set(lots)
    found = []
    for lot in lots:
        if not any([(*lot[:at], *lot[at + 1:]) in told for at in range(len(lot))]):
            found.append(lot)
    return found


def lot_book(book, lot):
    """The book of a lot: the signs and bounds of a book and just these of its facts."""
    return book.without(rest_of(lot, len(book)))
