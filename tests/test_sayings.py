"""Sayings: their signs ascend, contraries, crossed, renamed, texts, errors in their order."""

import unittest

from mutesigns.errors import BadSaying, BadSide, BadText, Twice
from mutesigns.sayings import Saying
from support import NO_NAMES, NO_SIDES, Case

NO_RENAMINGS = [None, "ab", [("a", "c"), ("b", "d")], {}, {"a": "c"}, {"b": "c"}, {"a": "c", "b": "c"},
                {"a": "c", "b": "d", "q": "d"}, {"a": "c", "b": "D"}, {"a": "c", "b": ["d"]}, {"a": "c", "b": None},
                {"a": "c", "b": "d", "Q": "e"}, {"a": "c", "b": "d", 1: "e"}, {"a": "c", "b": "d", ("a",): "e"},
                {"a": "c", "b": "d", "q": ""}]


def parts(saying):
    return (saying.side, saying.one, saying.other, saying.alike)


class Sayings(Case):
    def test_attributes(self):
        self.assertEqual(parts(Saying("row", "b", "a")), ("row", "a", "b", True))
        self.assertEqual(parts(Saying("column", "a", "b", False)), ("column", "a", "b", False))
        self.assertEqual(parts(Saying(alike=False, other="a1", one="a", side="row")), ("row", "a", "a1", False))
        self.assertEqual(parts(Saying("row", "a10", "a9")), ("row", "a10", "a9", True))

    def test_equal(self):
        self.assertTrue(Saying("row", "a", "b") == Saying("row", "b", "a", True))
        for other in (Saying("column", "a", "b"), Saying("row", "a", "c"), Saying("row", "b", "c"),
                      Saying("row", "a", "b", False), "row a b", ("row", "a", "b", True), None):
            self.assertFalse(Saying("row", "a", "b") == other)
            self.assertTrue(Saying("row", "a", "b") != other)

    def test_there_and_back(self):
        for side, crossed in (("row", "column"), ("column", "row")):
            for alike in (True, False):
                saying = Saying(side, "b", "a", alike)
                self.assertEqual(parts(saying.contrary()), (side, "a", "b", not alike))
                self.assertEqual(parts(saying.crossed()), (crossed, "a", "b", alike))
                self.assertEqual(saying.contrary().contrary(), saying)
                self.assertEqual(saying.crossed().crossed(), saying)
                named = saying.renamed({"a": "z", "b": "c", "q": "a"})
                self.assertEqual(parts(named), (side, "c", "z", alike))
                self.assertEqual(named.renamed({"z": "a", "c": "b"}), saying)
                self.assertEqual(parts(saying), (side, "a", "b", alike))

    def test_renamed(self):
        self.assertEqual(parts(Saying("row", "a", "b").renamed(names={"a": "b", "b": "a"})), ("row", "a", "b", True))
        for names in NO_RENAMINGS:
            self.refuses(BadSaying("names"), Saying("row", "a", "b").renamed, names)

    def test_errors(self):
        for value in NO_SIDES:
            self.refuses(BadSide("side"), Saying, value, "a", "b")
        for value in NO_NAMES:
            self.refuses(BadSaying("one"), Saying, "row", value, "b")
            self.refuses(BadSaying("other"), Saying, "row", "a", value)
        for value in (None, 0, 1, "True", [], [True]):
            self.refuses(BadSaying("alike"), Saying, "row", "a", "b", value)
        self.refuses(Twice("a"), Saying, "row", "a", "a")

    def test_order_of_errors(self):
        right = {"side": "row", "one": "a", "other": "b", "alike": False}
        self.refuses_in_order(Saying, right, [
            (BadSide("side"), {"side": "rows"}), (BadSaying("one"), {"one": "A"}), (BadSaying("other"), {"other": "B"}),
            (BadSaying("alike"), {"alike": 1}), (Twice("a"), {"other": "a"})])
        self.refuses(BadSaying("alike"), Saying, "row", "a", "a", 1)
        self.refuses(BadSaying("one"), Saying, "row", "", "")


class SayingTexts(Case):
    def test_texts(self):
        self.reads(Saying.read, "row a b", Saying("row", "b", "a"))
        self.reads(Saying.read, "column a10 a9", Saying("column", "a10", "a9"))
        self.reads(Saying.read, "not row a b", Saying("row", "a", "b", False))
        self.reads(Saying.read, "not column not or", Saying("column", "or", "not", False))

    def test_no_strings(self):
        for value in (None, 0, b"row a b", ["row", "a", "b"], ("row a b",), Saying("row", "a", "b")):
            self.refuses(BadText(0, 0), Saying.read, value)

    def test_bad_texts(self):
        for text, item in (("", 0), (" ", 0), (" row a b", 0), ("row", 1), ("row ", 1), ("row  a b", 1), ("row a", 2),
                           ("row a ", 2), ("row a a", 2), ("row b a", 2), ("row a9 a10", 2), ("row a b ", 3),
                           ("row a b c", 3), ("row a b or row a c", 3), ("not", 1), ("not not row a b", 1),
                           ("not row b a", 3), ("a b", 0), ("Row a b", 0), ("row\ta b", 0), ("row a b\n", 2),
                           ("row a B", 2), ("row A b", 1), ("row zzzzzzzzzzzz", 2), ("row zzzzzzzzzzzz z", 2),
                           ("row abcdefghijklm b", 1), ("alike row a b", 0), ("rows a b", 0), ("row 1 b", 1)):
            self.refuses(BadText(0, item), Saying.read, text)


if __name__ == "__main__":
    unittest.main()
