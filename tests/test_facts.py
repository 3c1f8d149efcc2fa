"""Facts: their sayings ascend, crossed, renamed, texts, errors in their order."""

import unittest

from mutesigns.errors import BadFact, BadText, TooMany, Twice
from mutesigns.facts import Fact, as_fact
from mutesigns.sayings import Saying
from support import NO_LISTS, Case
from test_sayings import NO_RENAMINGS


def sayings_of(*texts):
    return [Saying.read(text) for text in texts]


def fact_of(*texts):
    return Fact(sayings_of(*texts))


class Facts(Case):
    def test_ascending(self):
        told = ["not row a b", "row a b", "row a c", "column b c"]
        fact = fact_of(*told)
        self.assertEqual([str(one) for one in fact.sayings], ["column b c", "not row a b", "row a b", "row a c"])
        self.assertEqual((fact.signs, fact.is_single, len(fact)), (("a", "b", "c"), False, 4))
        self.assertIsInstance(fact.sayings, tuple)
        for many in (1, 2, 3, 4):
            self.assertEqual(len(fact_of(*told[:many])), many)
            self.assertEqual(fact_of(*told[:many]), fact_of(*reversed(told[:many])))

    def test_single(self):
        fact = Fact((Saying("row", "b", "a", False),))
        self.assertEqual((fact.is_single, fact.signs, len(fact), str(fact)), (True, ("a", "b"), 1, "not row a b"))
        self.assertIs(fact_of("row a b", "not row a b").is_single, False)

    def test_copied(self):
        told = sayings_of("row a b", "row a c")
        fact = Fact(sayings=told)
        told.pop()
        self.assertEqual(str(fact), "row a b or row a c")

    def test_equal(self):
        self.assertTrue(fact_of("row a b", "row a c") == fact_of("row a c", "row a b"))
        for other in (fact_of("row a b"), fact_of("row a b", "row b c"), sayings_of("row a b", "row a c"), None):
            self.assertFalse(fact_of("row a b", "row a c") == other)
            self.assertTrue(fact_of("row a b", "row a c") != other)
        self.assertFalse(fact_of("row a b") == Saying("row", "a", "b"))

    def test_crossed(self):
        fact = fact_of("row a c", "not column a b")
        self.assertEqual([str(one) for one in fact.crossed().sayings], ["column a c", "not row a b"])
        self.assertEqual((fact.crossed().crossed(), str(fact)), (fact, "not column a b or row a c"))

    def test_renamed(self):
        fact = fact_of("row a b", "row a c")
        named = fact.renamed(names={"a": "b", "b": "z", "c": "a", "q": "c"})
        self.assertEqual((str(named), named.signs), ("row a b or row b z", ("a", "b", "z")))
        self.assertEqual(named.renamed({"b": "a", "z": "b", "a": "c"}), fact)
        for names in NO_RENAMINGS + [{"a": "x", "b": "y"}, {"a": "x", "c": "y"}, {"b": "x", "c": "y"}]:
            self.refuses(BadFact("names"), fact.renamed, names)

    def test_as_fact(self):
        fact = fact_of("row a b", "row a c")
        self.assertIs(as_fact(fact), fact)
        self.assertEqual(as_fact(value=Saying("row", "a", "b")), fact_of("row a b"))
        for value in (None, "row a b", ("row", "a", "b", True), sayings_of("row a b"), 0, {}):
            self.assertIsNone(as_fact(value))

    def test_errors(self):
        one, two = sayings_of("row a b", "row a c")
        for value in NO_LISTS + [[], (), [one, "row a c"], [one, None], [one, Fact([two])], one, Fact([one])]:
            self.refuses(BadFact("sayings"), Fact, value)
        again = Saying("row", "b", "a")
        with self.assertRaises(Twice) as caught:
            Fact([two, one, again, two])
        self.assertIs(caught.exception.value, again)
        five = [one, two] + sayings_of("row a d", "row a e", "row a f")
        self.refuses(TooMany("sayings", 4), Fact, five)
        self.refuses(TooMany("sayings", 4), Fact, [one, one.contrary(), one.crossed(), two, two.contrary()])

    def test_order_of_errors(self):
        five = sayings_of("row a b", "row a c", "row a d", "row a e", "row a b")
        self.refuses(BadFact("sayings"), Fact, five + [None])
        with self.assertRaises(Twice) as caught:
            Fact(five)
        self.assertIs(caught.exception.value, five[4])


class FactTexts(Case):
    def test_texts(self):
        self.reads(Fact.read, "row a b", fact_of("row a b"))
        self.reads(Fact.read, "not row a b or row a b", fact_of("row a b", "not row a b"))
        told = ["column a b", "not column a c", "not row a b", "row or zz"]
        self.reads(Fact.read, " or ".join(told), fact_of(*told))

    def test_no_strings(self):
        for value in (None, 0, b"row a b", ["row a b"], fact_of("row a b"), Saying("row", "a", "b")):
            self.refuses(BadText(0, 0), Fact.read, value)

    def test_bad_texts(self):
        four = "column a b or column a c or column a d or column a e"
        for text, item in (("", 0), ("or row a b", 0), ("row a b or", 4), ("row a b or ", 4), ("row a b / row a c", 3),
                           ("row a b or row a b", 6), ("row a c or row a b", 6), ("row a b or not row a b", 7),
                           ("row a b or column b c", 6), ("row b c or row a d", 6), ("row a b or row b a", 6),
                           ("row a b or or", 4), ("row a b or row", 5), ("row a b or not row a", 7),
                           (four + " or", 15), (four + " or row a b", 15), (four + " ", 15), (four + " /", 15),
                           ("row a b or row a c or row a c", 10), ("row b a or row a c", 2)):
            self.refuses(BadText(0, item), Fact.read, text)


if __name__ == "__main__":
    unittest.main()
