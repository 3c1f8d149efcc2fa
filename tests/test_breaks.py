"""Breaks: the first one and each one, beside a plain list of all breaks of what stands."""

import itertools
import random
import unittest

from mutesigns.books import Book
from mutesigns.breaks import break_of, is_break
from mutesigns.errors import BadBook, BadSaying, NoSign
from mutesigns.sayings import Saying
from oracles import SIDES, Seen, drawn_book, drawn_sayings
from support import NO_LISTS, SAME, Case
from test_books import EIGHT
from test_facts import fact_of, sayings_of
from test_standing import told_of

ABC = ["a", "b", "c"]
ABCD = ["a", "b", "c", "d"]


def all_values(book):
    """All values that have the form of a break, signs in any order, numbers and bounds somewhat too great."""
    twos = list(itertools.product(book.signs, repeat=2))
    found = [("place", *two) for two in twos] + [("apart", side, *two) for side in SIDES for two in twos]
    found += [("fact", number) for number in range(-2, len(book) + 2)]
    lots = [lot for many in range(4) for lot in itertools.product(book.signs, repeat=many)]
    return found + [("many", side, lot) for side in SIDES for lot in lots]


class Breaks(Case):
    def check(self, book, sayings, values=()):
        """The first break is the first of all, and just these are breaks among the values."""
        found = Seen(book, sayings).breaks()
        self.assertEqual(break_of(book, sayings), found[0] if found else None)
        for value in [*found, *values]:
            self.assertIs(is_break(book, sayings, value), value in found, (str(book), value))

    def test_place(self):
        book = Book(ABCD, sayings_of("row a b", "row b c", "column a d", "column c d"))
        self.assertEqual(break_of(book, []), ("place", "a", "c"))
        self.assertIsNone(break_of(book.without([3]), []))
        self.assertEqual(break_of(book.without([3]), sayings_of("column c d")), ("place", "a", "c"))
        self.check(book, sayings_of("row c d"), all_values(book))

    def test_apart(self):
        book = Book(ABCD, sayings_of("row a b", "row b c", "not row a c"))
        self.assertEqual(break_of(book, []), ("apart", "row", "a", "c"))
        self.assertEqual(break_of(book, sayings_of("not column b d", "column b d")), ("apart", "column", "b", "d"))
        self.assertEqual(break_of(book, sayings_of("not row a b")), ("apart", "row", "a", "b"))
        self.assertIsNone(break_of(book.without([0]), []))
        self.assertEqual(break_of(book, sayings_of("column a b")), ("place", "a", "b"))

    def test_fact(self):
        fact = fact_of("row a b", "not column c d", "column a c")
        book = Book(ABCD, [fact_of("row a b", "not row a b"), fact])
        refuting = sayings_of("column a b", "column c d", "not column b c")
        self.assertEqual(break_of(book, refuting), ("fact", 1))
        for left_out in range(3):
            more = refuting[:left_out] + refuting[left_out + 1:]
            self.assertIsNone(break_of(book, more))
            self.assertIs(is_break(book, more, ("fact", 1)), False)
        self.assertEqual(break_of(Book(ABCD, [fact, fact]), refuting), ("fact", 0))
        self.assertTrue(is_break(Book(ABCD, [fact, fact]), refuting, ["fact", 1]))

    def test_single_facts_are_refuted_too(self):
        book = Book(ABC, sayings_of("row a b", "not row b c", "row a c"))
        self.assertEqual(break_of(book, []), ("apart", "row", "b", "c"))
        self.assertTrue(is_break(book, [], ("fact", 1)))
        self.assertFalse(is_break(book, [], ("fact", 0)))
        parted = Book(ABC, sayings_of("row a b"))
        self.assertEqual(break_of(parted, sayings_of("column a c", "row b c")), ("place", "a", "c"))

    def test_many(self):
        rows = sayings_of("not row a b", "column b c", "not row a c", "row c d")
        for bound, broken in ((1, ("a", "b")), (2, ("a", "b", "c")), (3, None), (8, None)):
            expected = None if broken is None else ("many", "row", broken)
            self.assertEqual(break_of(Book(ABCD, [], bound), rows), expected)
            self.assertEqual(break_of(Book(ABCD, rows, bound, 2), []), expected)
        crossed = [saying.crossed() for saying in rows]
        self.assertEqual(break_of(Book(ABCD, crossed, None, 2), []), ("many", "column", ("a", "b", "c")))
        self.assertTrue(is_break(Book(ABCD, [], 2), rows, ("many", "row", ["a", "b", "d"])))
        self.assertFalse(is_break(Book(ABCD, [], 2), rows, ("many", "row", ["a", "c", "d"])))
        self.assertEqual(break_of(Book(ABCD, [], 1, 1), sayings_of("not row a b", "not column c d")),
                         ("many", "column", ("c", "d")))

    def test_order_of_sorts(self):
        told = {"place": sayings_of("row c d", "column c d"), "apart": sayings_of("row b c", "not row b c"),
                "fact": sayings_of("not row a c", "not row a d"), "many": sayings_of("not column a b")}
        book = Book(ABCD, [fact_of("row a c", "row a d")], 8, 1)
        sorts = ["place", "apart", "fact", "many"]
        for many in range(1, 5):
            for chosen in itertools.combinations(sorts, many):
                more = [saying for sort in chosen for saying in told[sort]]
                self.assertEqual(break_of(book, more)[0], chosen[0])
                self.check(book, more)

    def test_any_order_and_twice(self):
        more = sayings_of("row a b", "row b c", "not row c d", "column a d")
        book = Book(ABCD, [fact_of("row a d", "not row a c")], None, 1)
        for order in itertools.permutations(more):
            self.assertEqual(break_of(book, order), ("fact", 0))
            self.assertEqual(break_of(book, [*order, *order]), ("fact", 0))
        self.assertEqual(break_of(sayings=tuple(more), book=book), ("fact", 0))
        self.assertIs(is_break(value=["fact", 0], sayings=more, book=book), True)

    def test_nothing_breaks_yet_no_grid_keeps_it(self):
        self.assertIsNone(break_of(Book(["a", "b", "c", "d", "e"], [], 2, 2), []))
        self.assertIsNone(break_of(Book(["a"], [], 1, 1), []))

    def test_all_of_three_signs(self):
        either = [fact_of("row a b", "column b c"), fact_of("not row a c", "column a b", "not column b c")]
        for at, told in enumerate(told_of(ABC)):
            bound = (None, 1, 2, 3)[at % 4]
            self.check(Book(ABC, [*told[::2], *either], bound, (2, None, 1)[at % 3]), told[1::2])

    def test_each_value_of_three_signs(self):
        for at, told in enumerate(told_of(ABC, 37)):
            book = Book(ABC, [*told[::2], fact_of("row a b", "row b c")], (1, 2, None)[at % 3], (None, 1)[at % 2])
            self.check(book, told[1::2], all_values(book))

    def test_drawn(self):
        draw = random.Random(5)
        for _ in range(400):
            book = drawn_book(draw, EIGHT[:draw.randint(2, 8)], bounds=(None, 1, 2, 3, 4, 5, 6, 7))
            self.check(book, drawn_sayings(draw, book.signs, draw.randint(0, 6)))

    def test_eight_signs(self):
        apart = [Saying("row", one, other, False) for one, other in itertools.combinations(EIGHT, 2)]
        for bound in range(1, 9):
            book = Book(EIGHT, [], bound)
            expected = None if bound == 8 else ("many", "row", tuple(sorted(EIGHT)[:bound + 1]))
            self.assertEqual(break_of(book, apart), expected)
        joined = [Saying("column", EIGHT[at], EIGHT[at + 1]) for at in range(7)]
        self.assertEqual(break_of(Book(EIGHT, joined, 7), []), ("many", "row", tuple(sorted(EIGHT))))
        self.assertIsNone(break_of(Book(EIGHT, joined[1:], 7), []))
        last = sorted(EIGHT)[-1]
        self.assertEqual(break_of(Book(EIGHT, joined), [Saying("row", sorted(EIGHT)[0], last)]),
                         ("place", sorted(EIGHT)[0], last))


class WrongValues(Case):
    def setUp(self):
        told = sayings_of("row a b", "column a b", "not row c d", "row c d")
        self.book = Book(ABCD, [*told, fact_of("row a c", "row b c")], 1, 1)
        self.more = sayings_of("not row a c", "not column c d")

    def test_right(self):
        for value in (("place", "a", "b"), ("apart", "row", "c", "d"), ("fact", 2), ("fact", 3), ("fact", 4),
                      ("many", "row", ("a", "c")), ("many", "column", ("c", "d"))):
            listed = [list(part) if isinstance(part, tuple) else part for part in value]
            is_right = value in Seen(self.book, self.more).breaks()
            self.assertEqual([is_break(self.book, self.more, told) for told in (value, listed)], [is_right] * 2, value)

    def test_wrong(self):
        for value in (("place", "b", "a"), ("place", "a", "a"), ("place", "a"), ("place", "a", "b", "c"), ("place",),
                      ("place", "a", "x"), ("place", "a", None), ("place", ["a", "b"]), ("place", "a", ["b"]),
                      ("Place", "a", "b"), ("apart", "row", "d", "c"), ("apart", "column", "c", "d"),
                      ("apart", "rows", "c", "d"), ("apart", "c", "d"), ("apart", "row", "c"), ("apart", "row", "c", "c"),
                      ("apart", "row", "c", "d", "d"), ("apart", None, "c", "d"), ("apart", "row", "c", "x"),
                      ("apart", "row", ["c", "d"]), ("fact", 0), ("fact", True), ("fact", False), ("fact", "2"),
                      ("fact", 2.0), ("fact", 5), ("fact", -1), ("fact", -3), ("fact",), ("fact", 2, 2), ("fact", None),
                      ("fact", [2]), ("fact", 10 ** 70), ("many", "row", ("c", "a")), ("many", "row", ("a", "c", "d")),
                      ("many", "row", ("a",)), ("many", "row", ()), ("many", "row", "ac"), ("many", "row", "a", "c"),
                      ("many", "row", ("a", "a")), ("many", "row", ("a", "b")), ("many", "row", {"a": 1, "c": 1}),
                      ("many", "row", ("a", None)), ("many", "row", (["a"], "c")), ("many", None, ("a", "c")),
                      ("many", "rows", ("a", "c")), ("many", "column", ("a", "c")), ("many", "row"),
                      ("many", "row", ("a", "c"), ()), ("many", ("a", "c"))):
            self.assertIs(is_break(self.book, self.more, value), False, value)
            self.assertIs(is_break(self.book, self.more, list(value)), False, value)

    def test_no_break_at_all(self):
        for value in (None, True, 0, "", "place", "fact", (), [], ((),), [[]], {}, {"place": 1}, {"place", "a", "b"}, SAME,
                      (SAME, "a", "b"), ("place", SAME, "b"), ("place", "a", SAME), ("apart", SAME, "c", "d"),
                      ("fact", SAME), ("many", SAME, ("a", "c")), ("many", "row", SAME), ("many", "row", (SAME, "c")),
                      (["place"], "a", "b"), (("place", "a", "b"),), Saying("row", "c", "d"), b"place",
                      iter(("place", "a", "b")), (None, 2), (True, 2), 3.5):
            self.assertIs(is_break(self.book, self.more, value), False, repr(value))

    def test_bound_of_none(self):
        told = sayings_of("not row a b")
        for value in (("many", "row", ("a", "b")), ("many", "column", ("a", "b")), ("many", "row", ("a",)),
                      ("many", "row", ())):
            self.assertIs(is_break(Book(ABC), told, value), False)
            self.assertIs(is_break(Book(ABC, [], None, 1), told, value), False)
        self.assertIs(is_break(Book(ABC, [], 1), told, ("many", "row", ("a", "b"))), True)
        self.assertIs(is_break(Book(["a"], [], 1), [], ("many", "row", ("a",))), False)


class BreakErrors(Case):
    def test_order(self):
        faults = [(BadBook("book"), {"book": "a b c : - - : -"}), (BadSaying("sayings"), {"sayings": ["row a x"]}),
                  (NoSign("d"), {"sayings": sayings_of("row a b", "row c d", "row e f")})]
        right = {"book": Book(ABC), "sayings": sayings_of("row a b")}
        self.refuses_in_order(break_of, right, faults)
        self.refuses_in_order(is_break, {**right, "value": None}, faults)

    def test_each(self):
        s = Saying("row", "a", "b")
        for call, more in ((break_of, ()), (is_break, (("fact", 0),))):
            for value in (None, 0, "a : - - : -", ["a"], s):
                self.refuses(BadBook("book"), call, value, [], *more)
            for value in NO_LISTS + [[None], [s, "row a b"], s, [fact_of("row a b")], [[s]]]:
                self.refuses(BadSaying("sayings"), call, Book(ABC), value, *more)
            self.refuses(NoSign("d"), call, Book(ABC), [s, Saying("row", "e", "d")], *more)
            self.refuses(NoSign("x"), call, Book(ABC), [Saying("row", "a", "x"), Saying("row", "d", "e")], *more)


if __name__ == "__main__":
    unittest.main()
