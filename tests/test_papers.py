"""Papers and denials: fixed parts, truth, equality."""

import importlib
import inspect
import pkgutil
import unittest

import mutesigns
from mutesigns.grids import Grid
from mutesigns.joins import Chain, NoChain
from mutesigns.papers import Denial, Paper, fixed
from mutesigns.partings import Parting
from mutesigns.sayings import Saying


DENIALS = {"NoChain", "Broken", "NoGrid", "Never", "Quarrel", "Unborne", "Clash", "NoReading", "NeverWord", "Claw", "Diamond", "Ring", "TwoSides",
           "Muddled", "Barred", "Given", "Unread", "Twofold", "Astray", "Unled", "Unsettled"}
PARTS = {
    "Chain": ["signs"], "NoChain": ["signs"], "Parting": ["mine", "its", "by"], "Finest": ["grid"], "Broken": ["broken"], "Kept": ["grid"],
    "NoGrid": ["tree"], "Sure": ["tree"], "Open": ["one", "other"], "Never": ["trees"], "Together": ["grid"], "Quarrel": ["numbers", "tree", "grids"],
    "Bears": ["numbers", "tree", "grids"], "Unborne": ["grid"], "Clash": ["numbers", "tree", "grids"], "Slips": ["numbers", "grid", "clashes"],
    "Fewest": ["grid", "tree"], "Most": ["grid", "trees"], "Shapes": ["grids", "trees"], "Reading": ["cutting", "grid"], "SureWord": ["rows"],
    "OpenWord": ["one", "other"], "NoReading": ["trees"], "NeverWord": ["trees"], "Claw": ["sign", "others"], "Diamond": ["one", "other", "tips"],
    "Ring": ["signs"], "LeftOut": ["signs", "grid", "bars"], "Laid": ["grid"], "OneSide": ["walk"], "TwoSides": ["walk"], "Loose": ["lot"],
    "Muddled": ["by"], "Stands": ["grid"], "Barred": ["tree"], "NothingGiven": ["trees"], "Given": ["saying", "grid"], "Lots": ["greatest", "barred"],
    "FewestKnown": ["signs", "lines"], "Enough": ["rows"], "FewestEnough": ["signs", "rows", "denials"], "Unread": ["grid", "side", "sign"],
    "Twofold": ["one", "other"], "Letters": ["rows", "new"], "Leads": ["trees", "back"], "Astray": ["grid", "is_back"],
    "Led": ["turning", "trees", "back"], "Unled": ["grids", "others"], "Settles": ["rows"], "Unsettled": ["one", "other"],
    "LeastLot": ["numbers", "rows", "pairs"], "BestAsk": ["ask", "table"], "OneGrid": ["grid"], "Plan": ["depth", "tree"],
}


def all_shapes():
    """All classes of papers of the package, by their names."""
    modules = [importlib.import_module(f"mutesigns.{file.name}") for file in pkgutil.iter_modules(mutesigns.__path__)]
    return {name: shape for module in modules for name, shape in inspect.getmembers(module, inspect.isclass)
            if issubclass(shape, Paper) and shape not in (Paper, Denial)}


class AllPapers(unittest.TestCase):
    """For each class of papers of the whole package."""

    def each(self):
        for name, shape in all_shapes().items():
            with self.subTest(paper=name):
                yield name, shape, PARTS[name]

    def test_all_are_told(self):
        self.assertEqual(set(all_shapes()), set(PARTS))

    def test_kind_parts_attributes(self):
        for name, shape, parts in self.each():
            self.assertEqual(list(inspect.signature(shape).parameters), parts)
            values = [[number, [[part], None]] for number, part in enumerate(parts)]
            told = tuple((number, ((part,), None)) for number, part in enumerate(parts))
            for paper in (shape(*values), shape(**dict(zip(parts, values))), shape(**dict(zip(parts[::-1], values[::-1])))):
                self.assertEqual((paper.kind, paper.parts), (name.lower(), told))
                self.assertEqual(tuple(getattr(paper, part) for part in parts), told)
                self.assertIs(type(paper.parts), tuple)

    def test_any_values(self):
        for name, shape, parts in self.each():
            for value in (None, True, 0, 1.5, "", b"x", {"a": [1]}, {1}, object(), Grid(["a"], [0], [0]), Paper("note", 1), ValueError("x")):
                paper = shape(*[value] * len(parts))
                for part, kept in zip(parts, paper.parts):
                    self.assertIs(kept, value)
                    self.assertIs(getattr(paper, part), value)
            with self.assertRaises(TypeError):
                shape(*[None] * (len(parts) + 1))
            with self.assertRaises(TypeError):
                shape(*[None] * (len(parts) - 1))

    def test_what_is_passed_may_change(self):
        for name, shape, parts in self.each():
            values = [[[part]] for part in parts]
            paper = shape(*values)
            for value in values:
                value[0].append("more")
                value.append("more")
            self.assertEqual(paper.parts, tuple(((part,),) for part in parts))

    def test_truth(self):
        for name, shape, parts in self.each():
            for value in (None, (), True, False, 0):
                self.assertIs(bool(shape(*[value] * len(parts))), name not in DENIALS)
            self.assertIs(issubclass(shape, Denial), name in DENIALS)
            self.assertEqual(shape.__mro__[1], Denial if name in DENIALS else Paper)

    def test_equality(self):
        for name, shape, parts in self.each():
            values = [[number, ["a"]] for number, _ in enumerate(parts)]
            paper = shape(*values)
            self.assertTrue(paper == shape(*[tuple(value) for value in values]))
            self.assertFalse(paper != shape(*values))
            for at in range(len(parts)):
                other = shape(*values[:at], [9], *values[at + 1:])
                self.assertTrue(paper != other)
                self.assertFalse(paper == other)
            for other in (Paper(paper.kind, *values), Denial(paper.kind, *values), paper.parts, None, name.lower()):
                self.assertFalse(paper == other)
                self.assertTrue(paper != other)
            for other_name, other_shape in all_shapes().items():
                if len(PARTS[other_name]) == len(parts):
                    self.assertIs(paper == other_shape(*values), name == other_name)
            self.assertTrue(shape(*[1] * len(parts)) == shape(*[True] * len(parts)))


class Papers(unittest.TestCase):
    def test_fixed(self):
        self.assertEqual(fixed([[], [[1]], ([2, (3, [4])],)]), ((), ((1,),), ((2, (3, (4,))),)))
        table = {"a": [1]}
        self.assertIs(fixed(table), table)
        self.assertEqual([fixed(value=None), fixed("ab"), fixed(3), fixed(())], [None, "ab", 3, ()])
        self.assertIs(fixed([table])[0], table)
        self.assertIs(fixed([True])[0], True)

    def test_fixed_deep(self):
        deep, told = [], ()
        for _ in range(60):
            deep, told = [deep], (told,)
        self.assertEqual(fixed(deep), told)

    def test_parts(self):
        given = [1, ([2],)]
        paper = Paper("note", given, "a", None)
        given.append(3)
        given[1][0].append(4)
        self.assertEqual((paper.kind, paper.parts), ("note", ((1, ((2,),)), "a", None)))
        self.assertEqual((Paper("note").parts, Paper(kind="note").kind, Denial("no", []).parts), ((), "note", ((),)))

    def test_truth(self):
        self.assertEqual([bool(Paper("a")), bool(Denial("a")), bool(Paper("a", 0))], [True, False, True])
        self.assertEqual([bool(Chain(["a"])), bool(NoChain(["a"])), bool(Parting("a", "b", "apart"))], [True, False, True])

    def test_equal(self):
        self.assertTrue(Paper("a", [1, [2]]) == Paper("a", (1, (2,))))
        self.assertFalse(Paper("a", [1]) != Paper("a", [1]))
        self.assertTrue(Paper("a", True) == Paper("a", 1))
        self.assertTrue(Paper("a", Saying("row", "a", "b")) == Paper("a", Saying("row", "b", "a")))
        self.assertTrue(Denial("a", 1) == Denial("a", 1))

    def test_unlike(self):
        paper = Paper("a", 1)
        for other in (Paper("b", 1), Paper("a", 2), Paper("a"), Paper("a", 1, 1), Paper("a", (1,)), Denial("a", 1),
                      ("a", (1,)), None, 1):
            self.assertFalse(paper == other)
            self.assertTrue(paper != other)
        self.assertFalse(Denial("a", 1) == paper)
        self.assertFalse(Paper("chain", ("a",)) == Chain(["a"]))
        self.assertFalse(Denial("nochain", ("a",)) == NoChain(["a"]))
        self.assertFalse(Chain(["a"]) == NoChain(["a"]))

    def test_classes_of_papers(self):
        self.assertEqual((Chain.__mro__[1], NoChain.__mro__[1], Parting.__mro__[1]), (Paper, Denial, Paper))
        self.assertEqual((Chain(["a", "b"]).signs, Chain(signs=["a"]).kind), (("a", "b"), "chain"))
        self.assertEqual((NoChain(["a", "b"]).signs, NoChain(signs=7).signs, NoChain(()).kind), (("a", "b"), 7, "nochain"))
        parting = Parting(by="apart", its=["b"], mine="a")
        self.assertEqual((parting.kind, parting.mine, parting.its, parting.by), ("parting", "a", ("b",), "apart"))
        self.assertEqual((parting.parts, Chain([["a"]]).parts), (("a", ("b",), "apart"), ((("a",),),)))
        self.assertEqual(Chain(["a"]), Chain(("a",)))


if __name__ == "__main__":
    unittest.main()
