"""Books: what they keep, what comes of them, bounds on how much they have, texts, errors in their order."""

import unittest

from mutesigns.books import Book
from mutesigns.errors import BadBook, BadFact, BadNumber, BadText, NoFact, NoSign, TooMany, Twice
from mutesigns.facts import Fact
from mutesigns.sayings import Saying
from support import NO_INTEGERS, NO_LISTS, NO_NAMES, Case
from test_facts import fact_of, sayings_of

EIGHT = ["a", "b", "c", "d", "e", "f", "g", "h"]
NO_BOUNDS = [0, 9, -1, 10 ** 70, True, False, "1", 1.0, "-", [1], ()]


def four_sayings(side="row"):
    """A fact of four sayings about a, b and c."""
    return fact_of(f"{side} a b", f"not {side} a b", f"{side} a c", f"not {side} a c")


def parts(book):
    return (book.signs, book.facts, book.most_rows, book.most_columns)


class Books(Case):
    def test_attributes(self):
        s, f = Saying("row", "b", "a"), fact_of("row a c", "not column a b")
        book = Book(("c", "a", "b"), [s, f, Fact([s])], 3)
        self.assertEqual(parts(book), (("a", "b", "c"), (Fact([s]), f, Fact([s])), 3, None))
        self.assertEqual((book.single, book.is_plain, len(book)), ((s, s), False, 3))
        self.assertTrue(all(isinstance(fact, Fact) for fact in book.facts))
        named = Book(most_columns=8, most_rows=1, facts=(), signs=["z"])
        self.assertEqual(parts(named), (("z",), (), 1, 8))
        self.assertEqual((parts(Book(["a"])), len(Book(["a"]))), ((("a",), (), None, None), 0))

    def test_single_in_their_order(self):
        told = sayings_of("row b c", "not column a b", "row b c", "column a c")
        book = Book(["a", "b", "c"], told[:2] + [four_sayings()] + told[2:])
        self.assertEqual(book.single, tuple(told))
        self.assertIsInstance(book.single, tuple)
        self.assertIsInstance(book.facts, tuple)

    def test_plain(self):
        s = Saying("row", "b", "a")
        self.assertIs(Book(["a", "b"]).is_plain, True)
        self.assertIs(Book(["a", "b"], [s, s.contrary()]).is_plain, True)
        self.assertIs(Book(["a", "b"], [s, fact_of("row a b", "column a b")]).is_plain, False)
        self.assertIs(Book(["a", "b"], [s], 2).is_plain, False)
        self.assertIs(Book(["a", "b"], [s], None, 8).is_plain, False)

    def test_copied(self):
        signs, facts = ["b", "a"], sayings_of("row a b")
        book = Book(signs, facts)
        signs.append("c")
        facts.append(None)
        self.assertEqual(str(book), "a b : - - : row a b")

    def test_equal(self):
        s, t = sayings_of("row a b", "column a b")
        self.assertTrue(Book(["b", "a"], [s], 1, 2) == Book(("a", "b"), (Fact([s]),), 1, 2))
        for other in (Book(["a", "b"], [s], 2, 1), Book(["a", "b"], [s], 1), Book(["a", "b"], [t], 1, 2),
                      Book(["a", "b"], [s, s], 1, 2), Book(["a", "b", "c"], [s], 1, 2), "a b : 1 2 : row a b", None):
            self.assertFalse(Book(["a", "b"], [s], 1, 2) == other)
            self.assertTrue(Book(["a", "b"], [s], 1, 2) != other)
        self.assertFalse(Book(["a", "b"], [s, t]) == Book(["a", "b"], [t, s]))

    def test_bounds_let(self):
        for bound in (None, 1, 2, 7, 8):
            self.assertEqual(parts(Book(["a"], [], bound, bound))[2:], (bound, bound))
        for bound in NO_BOUNDS:
            self.refuses(BadNumber("most_rows"), Book, ["a"], [], bound)
            self.refuses(BadNumber("most_columns"), Book, ["a"], [], None, bound)
            self.refuses(BadNumber("most_rows"), Book(["a"]).bounded, bound, bound)
            self.refuses(BadNumber("most_columns"), Book(["a"]).bounded, None, bound)

    def test_just_so_many(self):
        s = Saying("row", "a", "b")
        self.assertEqual(len(Book(EIGHT).signs), 8)
        self.refuses(TooMany("signs", 8), Book, EIGHT + ["i"])
        self.assertEqual(len(Book(EIGHT, [s] * 12)), 12)
        self.refuses(TooMany("facts", 12), Book, EIGHT, [s] * 13)
        self.assertEqual(len(Book(EIGHT, [four_sayings()] * 6)), 6)
        self.refuses(TooMany("sayings", 24), Book, EIGHT, [four_sayings()] * 6 + [s])
        self.assertEqual(len(Book(EIGHT, [fact_of("row a b", "row a c")] * 12)), 12)
        self.refuses(TooMany("facts", 12), Book, EIGHT, [four_sayings()] * 13)

    def test_errors(self):
        s = Saying("row", "a", "b")
        for value in NO_LISTS + [[], ()] + [["a", name] for name in NO_NAMES]:
            self.refuses(BadBook("signs"), Book, value)
        self.refuses(Twice("b"), Book, ["a", "b", "c", "b", "a"])
        for value in NO_LISTS + [[None], [s, "row a b"], [s, [s]], s, Fact([s]), [("row", "a", "b", True)]]:
            self.refuses(BadFact("facts"), Book, ["a", "b"], value)
        self.refuses(NoSign("e"), Book, ["a", "b"], [fact_of("row b d", "column b e"), s])
        self.refuses(NoSign("c"), Book, ["a", "b"], [s, fact_of("row b d", "column c e")])
        self.refuses(NoSign("x"), Book, ["a", "b"], [fact_of("row a b", "row x y"), fact_of("row c d")])

    def test_order_of_errors(self):
        s = Saying("row", "a", "b")
        right = {"signs": EIGHT, "facts": [s], "most_rows": 1, "most_columns": 1}
        c = fact_of("row a b", "row a c", "row a d", "row a e")
        self.refuses_in_order(Book, right, [
            (BadBook("signs"), {"signs": ["a", "b", 1, "a"]}), (Twice("a"), {"signs": ["a", "b", "x", "a"]}),
            (BadFact("facts"), {"facts": [Saying("row", "a", "z"), 1]}), (NoSign("z"), {"facts": sayings_of("row a z") * 13}),
            (BadNumber("most_rows"), {"most_rows": 9}), (BadNumber("most_columns"), {"most_columns": 0}),
            (TooMany("signs", 8), {"signs": EIGHT + ["i"]}), (TooMany("facts", 12), {"facts": [c] * 13}),
            (TooMany("sayings", 24), {"facts": [c] * 7})])

class BooksOfBooks(Case):
    def setUp(self):
        self.s, self.f = Saying("row", "a", "b"), fact_of("row a c", "not column a b")
        self.book = Book(["a", "b", "c"], [self.s, self.f, self.s], 2, 3)
        self.text = str(self.book)

    def tearDown(self):
        self.assertEqual(str(self.book), self.text)

    def test_with_fact(self):
        t = Saying("column", "b", "c")
        self.assertEqual(self.book.with_fact(t), Book(["a", "b", "c"], [self.s, self.f, self.s, t], 2, 3))
        self.assertEqual(self.book.with_fact(fact=Fact([t])), self.book.with_fact(t))
        self.assertEqual(len(self.book.with_fact(self.f)), 4)
        for value in (None, 0, "row a b", [t], ("row", "a", "b", True), self.book):
            self.refuses(BadFact("fact"), self.book.with_fact, value)
        self.refuses(NoSign("d"), self.book.with_fact, fact_of("row a d", "row d e"))
        full = Book(EIGHT, [self.s] * 12)
        self.refuses(TooMany("facts", 12), full.with_fact, self.s)
        self.refuses(NoSign("x"), full.with_fact, Saying("row", "a", "x"))
        self.refuses(TooMany("sayings", 24), Book(EIGHT, [four_sayings()] * 6).with_fact, self.s)
        self.refuses(TooMany("facts", 12), Book(EIGHT, [self.f] * 12).with_fact, self.s)

    def test_without(self):
        for numbers, left in (((), (0, 1, 2)), ([1], (0, 2)), ((2, 0), (1,)), ([0, 1, 2], ()), ([2], (0, 1))):
            told = [self.book.facts[number] for number in left]
            self.assertEqual(self.book.without(numbers=numbers), Book(["a", "b", "c"], told, 2, 3))
        for value in NO_LISTS + [[number] for number in NO_INTEGERS] + [[3, "0"]]:
            self.refuses(BadNumber("numbers"), self.book.without, value)
        self.refuses(NoFact(3), self.book.without, [0, 3, -1])
        self.refuses(NoFact(-1), self.book.without, [0, -1, 3])
        self.refuses(NoFact(10 ** 30), self.book.without, [1, 1, 10 ** 30])
        self.refuses(Twice(1), self.book.without, [0, 1, 1, 0])
        self.refuses(BadNumber("numbers"), self.book.without, [0, 0, 7, True])

    def test_with_sign(self):
        self.assertEqual(self.book.with_sign("a1"), Book(["a", "a1", "b", "c"], self.book.facts, 2, 3))
        self.assertEqual(self.book.with_sign(sign="z").signs, ("a", "b", "c", "z"))
        for value in NO_NAMES:
            self.refuses(BadBook("sign"), self.book.with_sign, value)
        self.refuses(Twice("b"), self.book.with_sign, "b")
        self.refuses(TooMany("signs", 8), Book(EIGHT).with_sign, "i")
        self.refuses(Twice("h"), Book(EIGHT).with_sign, "h")

    def test_bounded(self):
        self.assertEqual(parts(self.book.bounded(None, 8)), (self.book.signs, self.book.facts, None, 8))
        self.assertEqual(parts(self.book.bounded(most_columns=None, most_rows=1))[2:], (1, None))
        self.assertEqual(parts(self.book.bounded(None, None))[2:], (None, None))

    def test_with_book(self):
        t = Saying("column", "a", "d")
        other = Book(["d", "a"], [t, self.s.renamed({"a": "a", "b": "d"})], None, 2)
        both = self.book.with_book(other)
        self.assertEqual(both, Book(["a", "b", "c", "d"], self.book.facts + other.facts, 2, 2))
        self.assertEqual(other.with_book(other=self.book).facts, other.facts + self.book.facts)
        self.assertEqual(str(other), "a d : - 2 : column a d / row a d")
        bounds = [(None, None, None), (None, 3, 3), (3, None, 3), (3, 4, 3), (4, 3, 3), (8, 8, 8), (1, 8, 1)]
        for one, two, lesser in bounds:
            found = Book(["a"], [], one, two).with_book(Book(["b"], [], two, one))
            self.assertEqual((found.most_rows, found.most_columns), (lesser, lesser))
        self.assertEqual(len(self.book.with_book(self.book)), 6)

    def test_with_book_errors(self):
        for value in (None, "a : - - : -", ["a"], self.s):
            self.refuses(BadBook("other"), self.book.with_book, value)
        seven = Book(["a", "b", "d", "e", "f", "g", "h", "i"], [self.s] * 10)
        self.refuses(TooMany("signs", 8), self.book.with_book, seven)
        self.refuses(TooMany("facts", 12), self.book.with_book, Book(["a", "b"], [self.s] * 10))
        self.assertEqual(len(self.book.with_book(Book(["a", "b"], [self.s] * 9))), 12)
        full = Book(["a", "b", "c"], [four_sayings()] * 5)
        self.assertEqual(len(self.book.with_book(full)), 8)
        self.refuses(TooMany("sayings", 24), self.book.with_book, full.with_fact(self.s))

    def test_crossed(self):
        crossed = self.book.crossed()
        self.assertEqual(str(crossed), "a b c : 3 2 : column a b / column a c or not row a b / column a b")
        self.assertEqual(crossed.crossed(), self.book)

    def test_renamed(self):
        named = self.book.renamed(names={"a": "z", "b": "c", "c": "d"})
        self.assertEqual(str(named), "c d z : 2 3 : row c z / not column c z or row d z / row c z")
        self.assertEqual(named.renamed({"z": "a", "c": "b", "d": "c"}), self.book)
        right = {"a": "x", "b": "y", "c": "z"}
        for names in (None, [], {}, {"a": "x", "b": "y"}, {**right, "d": "w"}, {**right, "c": "y"}, {**right, "c": "Z"},
                      {**right, "c": None}, {"a": "x", "b": "y", "d": "z"}, {"a": "x", "b": "y", 3: "z"},
                      {**right, None: "w"}, {**right, "c": ["z"]}, [("a", "x"), ("b", "y"), ("c", "z")]):
            self.refuses(BadBook("names"), self.book.renamed, names)


class BookTexts(Case):
    def test_texts(self):
        self.reads(Book.read, "a : - - : -", Book(["a"]))
        self.reads(Book.read, "a b : 1 8 : -", Book(["b", "a"], [], 1, 8))
        self.reads(Book.read, "a a1 b : - 2 : row a b / not column a a1 or row a b / row a b",
                   Book(["b", "a", "a1"], [Saying("row", "a", "b"), fact_of("row a b", "not column a a1"),
                                           Saying("row", "a", "b")], None, 2))
        self.reads(Book.read, "a b c d e f g h : - - : " + " / ".join(["row a b"] * 12),
                   Book(EIGHT, sayings_of("row a b") * 12))
        self.reads(Book.read, "a b c : - - : " + " / ".join([str(four_sayings())] * 6),
                   Book(["a", "b", "c"], [four_sayings()] * 6))

    def test_no_strings(self):
        for value in (None, 0, b"a : - - : -", ["a : - - : -"], Book(["a"])):
            self.refuses(BadText(0, 0), Book.read, value)

    def test_bad_texts(self):
        for text, item in (("", 0), (": - - : -", 0), ("-", 0), ("a", 1), ("a b a", 2), ("a a", 1), ("a b a : - - : -", 2),
                           ("a b c d e f g h i : - - : -", 8), ("a b c d e f g h", 8), ("a :", 2), ("a : -", 3),
                           ("a : - -", 4), ("a : - - :", 5), ("a : - - -", 4), ("a : 0 - : -", 2), ("a : 9 - : -", 2),
                           ("a : - 0 : -", 3), ("a : - 10 : -", 3), ("a : - " + "1" * 70 + " : -", 3),
                           ("a : - - : - ", 6), ("a : - - : - /", 6), ("a : - - : - / -", 6), ("a : - - : /", 5),
                           ("a : - - : row", 6), ("a : - - : row a", 7), ("a : - - : row a a", 7),
                           ("a b : - - : row a b -", 9), ("a b : - - : row a b /", 10), ("a b : - - : row a b / -", 10),
                           ("a b : - - : row a c", 8), ("a b : - - : row aa b", 7), ("a b : - - : row c d", 7),
                           ("a b : - - : row b a", 8), ("a b : - - : row a b or row a b", 12),
                           ("a b : - - : row a b row a b", 9), ("a b : - - : not row a", 9), ("a :  - : -", 2),
                           ("a b : - - : row a b / / row a b", 10), ("a b : - - : row a b / row a c", 12),
                           ("a b : - - : row a b or row a c", 12), ("a\n : - - : -", 0), ("a : -1 - : -", 2)):
            self.refuses(BadText(0, item), Book.read, text)

    def test_texts_too_long(self):
        twelve = "a b c : - - : " + " / ".join(["row a b"] * 12)
        many = len(twelve.split(" "))
        self.refuses(BadText(0, many), Book.read, twelve + " / row a b")
        self.refuses(BadText(0, many), Book.read, twelve + " /")
        self.assertEqual(len(Book.read(twelve + " or row a c")), 12)
        full = "a b c : - - : " + " / ".join([str(four_sayings())] * 6)
        many = len(full.split(" "))
        self.refuses(BadText(0, many), Book.read, full + " / row a b")
        self.refuses(BadText(0, many), Book.read, full + " or row b c")
        last = "a b c : - - : " + " / ".join([str(four_sayings())] * 5 + ["row a b or row a c or row b c", "row a b"])
        self.assertEqual(len(Book.read(last)), 7)
        self.refuses(BadText(0, len(last.split(" "))), Book.read, last + " or row b c")
        most = "a b c : - - : " + " / ".join([str(four_sayings())] * 5 + ["row a b or row a c"] * 2)
        many = len(most.split(" "))
        self.assertEqual(len(Book.read(most)), 7)
        self.refuses(BadText(0, many), Book.read, most + " or row b c")
        self.refuses(BadText(0, many), Book.read, most + " / row b c")


if __name__ == "__main__":
    unittest.main()
