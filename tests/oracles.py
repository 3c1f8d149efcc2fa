"""What stands, breaks, trees, grids that keep a book: told again in the plainest way, for the tests to compare with."""

import itertools
import random

from mutesigns.books import Book
from mutesigns.facts import Fact
from mutesigns.sayings import Saying
from test_grids import all_grids

SIDES = ("column", "row")


class Seen:
    """What stands with a book and some sayings."""

    def __init__(self, book, sayings):
        self.book = book
        self.told = [*book.single, *sayings]
        self.apart = {(one.side, *two) for one in self.told if not one.alike
                      for two in ((one.one, one.other), (one.other, one.one))}
        self.joined = {side: self.joined_on(side) for side in SIDES}
        self.parted = {(side, one, other) for side in SIDES for one, other in itertools.permutations(book.signs, 2)
                       if self.is_parted(side, one, other)}

    def joined_on(self, side):
        """For each sign those joined to it: links are gone along as long as there are new ones."""
        joined = {(sign, sign) for sign in self.book.signs}
        joined |= {two for one in self.told if one.side == side and one.alike
                   for two in ((one.one, one.other), (one.other, one.one))}
        while True:
            more = {(a, d) for a, b in joined for c, d in joined if b == c} - joined
            if not more:
                return joined
            joined |= more

    def is_parted(self, side, one, other):
        if (one, other) in self.joined[side]:
            return False
        across = self.joined[SIDES[1 - SIDES.index(side)]]
        return any((one, mine) in self.joined[side] and (other, its) in self.joined[side]
                   and ((side, mine, its) in self.apart or (mine, its) in across)
                   for mine in self.book.signs for its in self.book.signs)

    def refutes(self, saying):
        if saying.alike:
            return (saying.side, saying.one, saying.other) in self.parted
        return (saying.one, saying.other) in self.joined[saying.side]

    def breaks(self):
        """All breaks, sort by sort, each sort ascending."""
        twos = list(itertools.combinations(self.book.signs, 2))
        found = [("place", *two) for two in twos if two in self.joined["row"] and two in self.joined["column"]]
        found += [("apart", side, *two) for side in SIDES for two in twos
                  if two in self.joined[side] and (side, *two) in self.apart]
        found += [("fact", number) for number, fact in enumerate(self.book.facts)
                  if all(self.refutes(saying) for saying in fact.sayings)]
        for side, bound in zip(SIDES, (self.book.most_columns, self.book.most_rows)):
            if bound is not None:
                found += [("many", side, lot) for lot in itertools.combinations(self.book.signs, bound + 1)
                          if all((side, *two) in self.parted for two in itertools.combinations(lot, 2))]
        return found


def tupled(value):
    """The value with lists in it as tuples."""
    return tuple(tupled(part) for part in value) if isinstance(value, (list, tuple)) else value


def is_fork(book, row):
    if not isinstance(row, tuple) or not all(type(part) is str for part in row[:3]):
        return False
    return (len(row) == 5 and row[0] in SIDES and row[1] in book.signs
            and row[2] in book.signs and row[1] < row[2] and all(type(number) is int for number in row[3:]))


def is_right_tree(book, sayings, value):
    """Whether rows, each a list or tuple of strings, integers and such lists, are a refusing tree."""
    rows = tupled(value)
    named = [number for row in rows if is_fork(book, row) for number in row[3:]]
    if not rows or sorted(named) != list(range(1, len(rows))):
        return False
    if not all(number < min(row[3:]) for number, row in enumerate(rows) if is_fork(book, row)):
        return False
    return is_right_below(book, list(sayings), rows, 0)


def is_right_below(book, told, rows, at):
    row = rows[at]
    if not is_fork(book, row):
        return any(repr(row) == repr(broken) for broken in Seen(book, told).breaks())
    return all(is_right_below(book, [*told, Saying(*row[:3], alike)], rows, row[4 - alike]) for alike in (True, False))


def kept_grids(book, sayings=()):
    """All grids that keep the book and in which the sayings hold."""
    return [grid for grid in all_grids(book.signs) if grid.keeps(book) and all(grid.holds(one) for one in sayings)]


def drawn_sayings(draw, signs, many):
    """Some sayings of these two or more signs, no two equal."""
    twos = [(side, one, other, alike) for side in SIDES for one, other in itertools.combinations(signs, 2)
            for alike in (True, False)]
    return [Saying(*two) for two in draw.sample(twos, min(many, len(twos)))]


def drawn_book(draw, signs, most_facts=8, bounds=(None, None, 1, 2, 3, 4)):
    """A book of these two or more signs with facts of one to four sayings."""
    facts = []
    for _ in range(draw.randint(0, most_facts)):
        fact = Fact(drawn_sayings(draw, signs, draw.choice((1, 1, 2, 2, 3, 4))))
        if sum(len(one) for one in [*facts, fact]) <= 24:
            facts.append(fact)
    return Book(signs, facts, draw.choice(bounds), draw.choice(bounds))


def drawn_books(seed, many, signs, **more):
    """So many books of these signs, the same ones each time."""
    draw = random.Random(seed)
    return [drawn_book(draw, signs, **more) for _ in range(many)]
