"""Joined lots, chains and partings, beside what the points say of them told in another way."""

import itertools
import unittest

from mutesigns.books import Book
from mutesigns.errors import BadBook, BadSaying, BadSide, NoSign
from mutesigns.joins import Chain, NoChain, chain_of, lots_of
from mutesigns.partings import Parting, parting_of
from mutesigns.sayings import Saying
from support import NO_LISTS, NO_SIDES, SAME, Case
from test_facts import fact_of, sayings_of
from test_grids import all_grids

SIDES = ("row", "column")
ABC = ["a", "b", "c"]
ABCD = ["a", "b", "c", "d"]


def told_of(signs, step=1):
    """Each so manyth of the lists of sayings that tell of each two signs and each side alike, apart or nothing."""
    twos = [(side, one, other) for side in SIDES for one, other in itertools.combinations(signs, 2)]
    rows = itertools.product((None, True, False), repeat=len(twos))
    return [[Saying(*two, alike) for two, alike in zip(twos, row) if alike is not None]
            for row in itertools.islice(rows, 0, None, step)]


def chains(signs, told, side, one, other):
    """All chains from one to other that come to no sign twice."""
    found = []
    for many in range(len(signs) + 1):
        for walk in itertools.permutations(signs, many):
            steps = list(zip(walk, walk[1:]))
            if walk[:1] == (one,) and walk[-1:] == (other,) and all(Saying(side, *step) in told for step in steps):
                found.append(walk)
    return found


def partings(signs, told, side, one, other):
    """All partings of two signs, as tuples of their parts."""
    def joined(side, one, other):
        return len(chains(signs, told, side, one, other)) > 0

    across = SIDES[1 - SIDES.index(side)]
    if joined(side, one, other):
        return []
    twos = [two for two in itertools.product(signs, signs)
            if joined(side, one, two[0]) and joined(side, other, two[1])]
    return ([(*two, "apart") for two in twos if Saying(side, *two, False) in told]
            + [(*two, "joined") for two in twos if joined(across, *two)])


class Joins(Case):
    def setUp(self):
        told = sayings_of("row a b", "row c d", "column a c", "not row b e")
        self.book = Book(["a", "b", "c", "d", "e"], told)

    def test_lots(self):
        self.assertEqual(lots_of(self.book, [], "column"), (("a", "c"), ("b",), ("d",), ("e",)))
        self.assertEqual(lots_of(self.book, (), "row"), (("a", "b"), ("c", "d"), ("e",)))
        more = sayings_of("row d e", "column d e", "not row a c")
        self.assertEqual(lots_of(book=self.book, sayings=more, side="row"), (("a", "b"), ("c", "d", "e")))
        self.assertEqual(lots_of(self.book, more, "column"), (("a", "c"), ("b",), ("d", "e")))
        self.assertEqual(lots_of(Book(["q"]), [], "row"), (("q",),))

    def test_what_joins_nothing(self):
        either = Book(ABC, [fact_of("row a b", "row a c"), fact_of("not row b c"), fact_of("row b c", "not row b c")])
        for side in SIDES:
            self.assertEqual(lots_of(either, sayings_of("not row a b", "not column a c"), side), (("a",), ("b",), ("c",)))
        self.assertEqual(chain_of(either, [], "row", "a", "b"), NoChain(["a"]))
        self.assertIsNone(parting_of(either, [], "row", "a", "b"))

    def test_any_order_and_twice(self):
        told = sayings_of("row a b", "row b c", "row d e", "row a c")
        for more in itertools.permutations(told):
            self.assertEqual(lots_of(Book(self.book.signs), more, "row"), (("a", "b", "c"), ("d", "e")))
            self.assertEqual(lots_of(Book(self.book.signs), [*more, *more], "row"), (("a", "b", "c"), ("d", "e")))
            self.assertEqual(chain_of(Book(self.book.signs), [*more, *more], "row", "b", "c"), Chain(["b", "c"]))
        self.assertEqual(lots_of(Book(self.book.signs, told + told), told, "row"), (("a", "b", "c"), ("d", "e")))

    def test_chains(self):
        ring = sayings_of("row a b", "row b c", "row c d", "row a d")
        book = Book(ABCD)
        self.assertEqual(chain_of(book, ring, "row", "a", "c"), Chain(["a", "b", "c"]))
        self.assertEqual(chain_of(book, ring, "row", "c", "a"), Chain(["c", "b", "a"]))
        self.assertEqual(chain_of(book, ring, "row", "b", "d"), Chain(["b", "a", "d"]))
        self.assertEqual(chain_of(other="d", one="a", side="row", sayings=ring, book=book), Chain(["a", "d"]))
        self.assertEqual(chain_of(book, ring, "column", "a", "a"), Chain(["a"]))
        self.assertEqual(chain_of(book, ring, "column", "a", "b"), NoChain(["a"]))
        self.assertEqual(chain_of(self.book, [], "row", "d", "b"), NoChain(["c", "d"]))
        self.assertEqual(chain_of(self.book, [], "row", "a", "a").signs, ("a",))

    def test_all_of_three_signs(self):
        for told in told_of(ABC):
            self.check_all(Book(ABC, told), told)

    def test_some_of_four_signs(self):
        for told in told_of(ABCD, 9973):
            self.check_all(Book(ABCD, told[::2]), told)

    def check_all(self, book, told):
        for side, one, other in itertools.product(SIDES, book.signs, book.signs):
            lots = lots_of(book, told[1::2], side)
            lot = tuple(sign for sign in book.signs if chains(book.signs, told, side, one, sign))
            self.assertIn(lot, lots)
            self.assertEqual((sorted(lots), sum(lots, ())), (list(lots), sum(sorted(lots), ())))
            self.assertEqual(sorted(sum(lots, ())), list(book.signs))
            ways = chains(book.signs, told, side, one, other)
            best = Chain(min(ways, key=lambda walk: (len(walk), walk))) if ways else NoChain(lot)
            self.assertEqual(chain_of(book, told, side, one, other), best)


class Partings(Case):
    def test_ordinary(self):
        book = Book(ABCD, sayings_of("row a b", "row c d", "not row b c", "column a d"))
        self.assertEqual(parting_of(book, [], "row", "a", "c"), Parting("a", "d", "joined"))
        self.assertEqual(parting_of(book, [], "row", "c", "a"), Parting("c", "b", "apart"))
        self.assertEqual(parting_of(other="d", one="b", side="row", sayings=(), book=book), Parting("a", "d", "joined"))
        self.assertEqual(parting_of(book, [], "column", "a", "b"), Parting("a", "b", "joined"))
        self.assertEqual(parting_of(book, [], "column", "b", "d"), Parting("b", "a", "joined"))

    def test_least(self):
        book = Book(ABCD, sayings_of("not row a b", "column a b"))
        self.assertEqual(parting_of(book, [], "row", "a", "b"), Parting("a", "b", "apart"))
        self.assertEqual(parting_of(book, [], "row", "b", "a"), Parting("b", "a", "apart"))
        more = sayings_of("row b c", "row a d", "not row c d")
        self.assertEqual(parting_of(book, more, "row", "d", "c"), Parting("a", "b", "apart"))
        self.assertEqual(parting_of(book, more, "row", "c", "d"), Parting("b", "a", "apart"))

    def test_none(self):
        book = Book(ABCD, sayings_of("row a b", "not row a b", "not row a c"))
        for one, other in (("a", "b"), ("b", "a"), ("a", "a"), ("c", "d"), ("d", "b")):
            self.assertIsNone(parting_of(book, [], "row", one, other))
        self.assertIsNone(parting_of(book, [], "column", "a", "c"))
        joined = sayings_of("row a b", "column a b")
        self.assertIsNone(parting_of(Book(ABC), joined, "row", "a", "b"))
        self.assertIsNone(parting_of(Book(ABC), joined, "column", "a", "b"))

    def test_all_of_three_signs(self):
        for told in told_of(ABC):
            self.check_all(Book(ABC, told[::2]), told[1::2], told)

    def test_some_of_four_signs(self):
        for told in told_of(ABCD, 9973):
            self.check_all(Book(ABCD, told[1::2]), told[::2], told)

    def check_all(self, book, more, told):
        for side, one, other in itertools.product(SIDES, book.signs, book.signs):
            found = parting_of(book, more, side, one, other)
            ways = partings(book.signs, told, side, one, other)
            self.assertEqual(None if found is None else found.parts, min(ways, default=None))

    def test_in_grids(self):
        grids = all_grids(ABC)
        for told in told_of(ABC, 5):
            held = [grid for grid in grids if all(grid.holds(saying) for saying in told)]
            for side, one, other in itertools.product(SIDES, ABC, ABC):
                parting, chain = parting_of(Book(ABC), told, side, one, other), chain_of(Book(ABC), told, side, one, other)
                for grid in held:
                    if chain:
                        self.assertTrue(grid.are_alike(side, one, other))
                    if parting is not None:
                        self.assertFalse(grid.are_alike(side, one, other))


class StandingErrors(Case):
    def right(self, *names):
        told = {"book": Book(ABC), "sayings": sayings_of("row a b"), "side": "row", "one": "a", "other": "c"}
        return {name: told[name] for name in names}

    def test_order(self):
        faults = [
            (BadBook("book"), {"book": "a b c : - - : -"}), (BadSaying("sayings"), {"sayings": [Saying("row", "a", "x"), 1]}),
            (NoSign("d"), {"sayings": sayings_of("row a b", "row c d", "row e f")}), (BadSide("side"), {"side": "rows"}),
            (NoSign(["a"]), {"one": ["a"]}), (NoSign("x"), {"other": "x"})]
        self.refuses_in_order(lots_of, self.right("book", "sayings", "side"), faults[:4])
        for call in (chain_of, parting_of):
            self.refuses_in_order(call, self.right("book", "sayings", "side", "one", "other"), faults)

    def test_each(self):
        book, s = Book(ABC), Saying("row", "a", "b")
        for call, more in ((lots_of, ()), (chain_of, ("a", "b")), (parting_of, ("a", "b"))):
            for value in (None, 0, "a : - - : -", ["a"], s):
                self.refuses(BadBook("book"), call, value, [], "row", *more)
            for value in NO_LISTS + [[None], [s, "row a b"], s, [fact_of("row a b")], [[s]]]:
                self.refuses(BadSaying("sayings"), call, book, value, "row", *more)
            for value in NO_SIDES:
                self.refuses(BadSide("side"), call, book, [], value, *more)
            self.refuses(NoSign("d"), call, book, [s, Saying("row", "e", "d")], "row", *more)
            self.refuses(NoSign("x"), call, book, [Saying("row", "a", "x"), Saying("row", "d", "e")], "row", *more)
        for call in (chain_of, parting_of):
            for value in (None, "d", "", 0, True, ["a"], ("a", "b"), SAME):
                self.refuses(NoSign(value), call, book, [], "row", value, "a")
                self.refuses(NoSign(value), call, book, [], "row", "a", value)
                self.refuses(NoSign(value), call, book, [], "row", value, "z")


if __name__ == "__main__":
    unittest.main()
