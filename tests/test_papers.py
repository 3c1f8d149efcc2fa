"""Papers and denials: fixed parts, truth, equality."""

import unittest

from mutesigns.joins import Chain, NoChain
from mutesigns.papers import Denial, Paper, fixed
from mutesigns.partings import Parting
from mutesigns.sayings import Saying


class Papers(unittest.TestCase):
    def test_fixed(self):
        self.assertEqual(fixed([[], [[1]], ([2, (3, [4])],)]), ((), ((1,),), ((2, (3, (4,))),)))
        table = {"a": [1]}
        self.assertIs(fixed(table), table)
        self.assertEqual([fixed(value=None), fixed("ab"), fixed(3), fixed(())], [None, "ab", 3, ()])
        self.assertIs(fixed([table])[0], table)
        self.assertIs(fixed([True])[0], True)

    def test_fixed_deep(self):
        deep, told = [], ()
        for _ in range(60):
            deep, told = [deep], (told,)
        self.assertEqual(fixed(deep), told)

    def test_parts(self):
        given = [1, ([2],)]
        paper = Paper("note", given, "a", None)
        given.append(3)
        given[1][0].append(4)
        self.assertEqual((paper.kind, paper.parts), ("note", ((1, ((2,),)), "a", None)))
        self.assertEqual((Paper("note").parts, Paper(kind="note").kind, Denial("no", []).parts), ((), "note", ((),)))

    def test_truth(self):
        self.assertEqual([bool(Paper("a")), bool(Denial("a")), bool(Paper("a", 0))], [True, False, True])
        self.assertEqual([bool(Chain(["a"])), bool(NoChain(["a"])), bool(Parting("a", "b", "apart"))], [True, False, True])

    def test_equal(self):
        self.assertTrue(Paper("a", [1, [2]]) == Paper("a", (1, (2,))))
        self.assertFalse(Paper("a", [1]) != Paper("a", [1]))
        self.assertTrue(Paper("a", True) == Paper("a", 1))
        self.assertTrue(Paper("a", Saying("row", "a", "b")) == Paper("a", Saying("row", "b", "a")))
        self.assertTrue(Denial("a", 1) == Denial("a", 1))

    def test_unlike(self):
        paper = Paper("a", 1)
        for other in (Paper("b", 1), Paper("a", 2), Paper("a"), Paper("a", 1, 1), Paper("a", (1,)), Denial("a", 1),
                      ("a", (1,)), None, 1):
            self.assertFalse(paper == other)
            self.assertTrue(paper != other)
        self.assertFalse(Denial("a", 1) == paper)
        self.assertFalse(Paper("chain", ("a",)) == Chain(["a"]))
        self.assertFalse(Denial("nochain", ("a",)) == NoChain(["a"]))
        self.assertFalse(Chain(["a"]) == NoChain(["a"]))

    def test_classes_of_papers(self):
        self.assertEqual((Chain.__mro__[1], NoChain.__mro__[1], Parting.__mro__[1]), (Paper, Denial, Paper))
        self.assertEqual((Chain(["a", "b"]).signs, Chain(signs=["a"]).kind), (("a", "b"), "chain"))
        self.assertEqual((NoChain(["a", "b"]).signs, NoChain(signs=7).signs, NoChain(()).kind), (("a", "b"), 7, "nochain"))
        parting = Parting(by="apart", its=["b"], mine="a")
        self.assertEqual((parting.kind, parting.mine, parting.its, parting.by), ("parting", "a", ("b",), "apart"))
        self.assertEqual((parting.parts, Chain([["a"]]).parts), (("a", ("b",), "apart"), ((("a",),),)))
        self.assertEqual(Chain(["a"]), Chain(("a",)))


if __name__ == "__main__":
    unittest.main()
