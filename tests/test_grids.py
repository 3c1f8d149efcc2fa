"""Grids: the integers that tell them, what holds in them and what they keep, texts, errors in their order."""

import functools
import itertools
import unittest

from mutesigns.books import Book
from mutesigns.errors import BadBook, BadFact, BadGrid, BadSaying, BadSide, BadText, Misfit, NoSign, TooMany, Twice
from mutesigns.facts import Fact
from mutesigns.grids import Grid
from mutesigns.sayings import Saying
from support import NO_INTEGERS, NO_LISTS, NO_NAMES, NO_SIDES, Case
from test_books import EIGHT
from test_facts import fact_of, sayings_of


def parts(grid):
    return (grid.signs, grid.rows, grid.columns)


def line_numbers(many):
    """All tuples of so many integers that number rows."""
    found = [()]
    for _ in range(many):
        found = [(*told, number) for told in found for number in range(max(told, default=-1) + 2)]
    return found


def all_grids(signs):
    """All grids of the ascending signs."""
    return listed_grids(tuple(signs))


@functools.cache
def listed_grids(signs):
    lines = line_numbers(len(signs))
    return tuple(Grid(signs, rows, columns) for rows, columns in itertools.product(lines, lines)
                 if len(set(zip(rows, columns))) == len(signs))


class Grids(Case):
    def test_attributes(self):
        rows, columns = [0, 1, 0, 2], [0, 0, 1, 2]
        grid = Grid(["a", "a1", "b", "c"], rows, columns)
        rows.append(9)
        columns.clear()
        self.assertEqual(parts(grid), (("a", "a1", "b", "c"), (0, 1, 0, 2), (0, 0, 1, 2)))
        self.assertEqual((grid.many_rows, grid.many_columns), (3, 3))
        named = Grid(columns=(0, 1), rows=(0, 0), signs=("a", "b"))
        self.assertEqual((named.many_rows, named.many_columns), (1, 2))
        self.assertEqual(parts(Grid(["q"], [0], [0])), (("q",), (0,), (0,)))

    def test_how_many_there_are(self):
        self.assertEqual([len(all_grids(list("abcd")[:many])) for many in (1, 2, 3, 4)], [1, 3, 15, 113])

    def test_numbers(self):
        for numbers in itertools.product(range(-1, 4), repeat=3):
            if numbers in line_numbers(3):
                self.assertEqual(Grid(["a", "b", "c"], numbers, [0, 1, 2]).rows, numbers)
                self.assertEqual(Grid(["a", "b", "c"], [0, 1, 2], numbers).columns, numbers)
            else:
                self.refuses(BadGrid("rows"), Grid, ["a", "b", "c"], numbers, [0, 1, 2])
                self.refuses(BadGrid("columns"), Grid, ["a", "b", "c"], [0, 1, 2], list(numbers))

    def test_equal(self):
        self.assertTrue(Grid(["a", "b"], [0, 0], [0, 1]) == Grid(("a", "b"), (0, 0), (0, 1)))
        for other in (Grid(["a", "b"], [0, 1], [0, 0]), Grid(["a", "c"], [0, 0], [0, 1]), Grid(["a"], [0], [0]),
                      "a b : 0 0 : 0 1", None):
            self.assertFalse(Grid(["a", "b"], [0, 0], [0, 1]) == other)
            self.assertTrue(Grid(["a", "b"], [0, 0], [0, 1]) != other)

    def test_errors(self):
        for value in NO_LISTS + [[], ()] + [["a", name] for name in NO_NAMES] + [["b", "a"], ["a", "a"], ["a9", "a10"]]:
            self.refuses(BadGrid("signs"), Grid, value, [0, 1], [0, 1])
        for value in NO_LISTS + [[], [0], [0, 1, 0], "01"] + [[0, number] for number in NO_INTEGERS]:
            self.refuses(BadGrid("rows"), Grid, ["a", "b"], value, [0, 1])
            self.refuses(BadGrid("columns"), Grid, ["a", "b"], [0, 1], value)
        self.refuses(BadGrid("rows"), Grid, ["a", "b"], [False, True], [0, 1])
        self.refuses(Twice("c"), Grid, ["a", "b", "c", "d"], [0, 1, 1, 0], [0, 0, 0, 0])
        self.assertEqual(Grid(EIGHT, range_of(8), [0] * 8).many_rows, 8)
        self.refuses(TooMany("signs", 8), Grid, EIGHT + ["i"], range_of(9), [0] * 9)

    def test_order_of_errors(self):
        right = {"signs": ["a", "b"], "rows": [0, 1], "columns": [0, 0]}
        self.refuses_in_order(Grid, right, [
            (BadGrid("signs"), {"signs": ["b", "a"]}), (BadGrid("rows"), {"rows": [1, 0]}),
            (BadGrid("columns"), {"columns": [0]})])
        self.refuses(BadGrid("columns"), Grid, ["a", "b", "c"], [0, 0, 0], [0, 0, 2])
        self.refuses(Twice("b"), Grid, EIGHT + ["i"], [0] * 9, [0] * 9)


def range_of(many):
    return list(range(many))


class GridsOfPlaces(Case):
    def test_any_order(self):
        grid = Grid.of(["c", "a", "b"], [(-5, 10 ** 40), [7, 3], (7, 10 ** 40)])
        self.assertEqual(parts(grid), (("a", "b", "c"), (0, 0, 1), (0, 1, 1)))
        self.assertEqual(Grid.of(places=((0, 0),), signs=("a",)), Grid(["a"], [0], [0]))
        for grid in all_grids(["a", "b", "c"]):
            places = dict(zip(grid.signs, zip(grid.rows, grid.columns)))
            for signs in itertools.permutations(grid.signs):
                told = [(9 - 5 * places[sign][0], -3 * places[sign][1]) for sign in signs]
                self.assertEqual(Grid.of(signs, told), grid)

    def test_errors(self):
        for value in NO_LISTS + [[], ()] + [["a", name] for name in NO_NAMES]:
            self.refuses(BadGrid("signs"), Grid.of, value, [(0, 0), (0, 1)])
        pairs = [(0,), (0, 1, 2), 0, None, "01", {0, 1}] + [(0, number) for number in NO_INTEGERS]
        for value in NO_LISTS + [[], [(0, 0)], [(0, 0)] * 3] + [[(0, 0), pair] for pair in pairs]:
            self.refuses(BadGrid("places"), Grid.of, ["a", "b"], value)
        self.refuses(Twice("a"), Grid.of, ["b", "a", "a", "b"], [(0, 0), (0, 0), (0, 1), (0, 2)])
        self.refuses(Twice("a"), Grid.of, ["c", "b", "a"], [(0, 0), (1, 1), [0, 0]])
        self.refuses(Twice("b"), Grid.of, ["c", "b", "a"], [(0, 0), (0, 0), (0, 0)])
        self.assertEqual(Grid.of(EIGHT, [(k, 0) for k in range(8)]).many_rows, 8)
        self.refuses(TooMany("signs", 8), Grid.of, EIGHT + ["i"], [(k, 0) for k in range(9)])

    def test_order_of_errors(self):
        right = {"signs": ["b", "a"], "places": [(0, 0), (0, 1)]}
        self.refuses_in_order(Grid.of, right, [
            (BadGrid("signs"), {"signs": ["b", 1]}), (BadGrid("places"), {"places": [(0, 0), (0, True)]})])
        self.refuses(BadGrid("places"), Grid.of, ["b", "b"], [(0, 0), (0, 1), (0, 2)])
        self.refuses(Twice("x"), Grid.of, EIGHT + ["x", "x"], [(0, 0)] * 10)
        self.refuses(Twice("b"), Grid.of, EIGHT + ["x", "y"], [(0, 0)] * 10)


class InGrids(Case):
    def setUp(self):
        self.grid = Grid(["a", "b", "c", "d"], [0, 1, 0, 1], [0, 1, 1, 2])

    def test_lots(self):
        self.assertEqual(self.grid.lots("row"), (("a", "c"), ("b", "d")))
        self.assertEqual(self.grid.lots(side="column"), (("a",), ("b", "c"), ("d",)))
        for value in NO_SIDES:
            self.refuses(BadSide("side"), self.grid.lots, value)

    def test_place(self):
        self.assertEqual([self.grid.place(sign) for sign in "abcd"], [(0, 0), (1, 1), (0, 1), (1, 2)])
        self.assertEqual(self.grid.place(sign="d"), (1, 2))
        for value in NO_NAMES + ["e", 0]:
            self.refuses(NoSign(value), self.grid.place, value)

    def test_are_alike(self):
        alike = {("row", "a", "c"), ("row", "b", "d"), ("column", "b", "c")}
        for side, one, other in itertools.product(("row", "column"), "abcd", "abcd"):
            found = self.grid.are_alike(side, one, other)
            self.assertIs(found, one == other or (side, min(one, other), max(one, other)) in alike)
        self.assertIs(self.grid.are_alike(other="a", one="c", side="row"), True)
        right = {"side": "row", "one": "a", "other": "b"}
        self.refuses_in_order(self.grid.are_alike, right, [
            (BadSide("side"), {"side": "rows"}), (NoSign("x"), {"one": "x"}), (NoSign(["y"]), {"other": ["y"]})])

    def test_holds(self):
        for saying in sayings_of("row a c", "not row a b", "column b c", "not column a d"):
            self.assertIs(self.grid.holds(saying), True)
            self.assertIs(self.grid.holds(saying=saying.contrary()), False)
        for value in (None, "row a c", fact_of("row a c"), ("row", "a", "c", True)):
            self.refuses(BadSaying("saying"), self.grid.holds, value)
        self.refuses(NoSign("x"), self.grid.holds, Saying("row", "y", "x"))
        self.refuses(NoSign("e"), self.grid.holds, Saying("row", "a", "e"))

    def test_keeps_fact(self):
        self.assertIs(self.grid.keeps_fact(fact_of("row a b", "column a b", "column b c")), True)
        self.assertIs(self.grid.keeps_fact(fact_of("row a b", "column a b", "not row a c")), False)
        self.assertIs(self.grid.keeps_fact(fact_of("row a b", "not row a b")), True)
        self.assertIs(self.grid.keeps_fact(fact=Saying("row", "a", "b", False)), True)
        for value in (None, "row a c", [Saying("row", "a", "c")], 0):
            self.refuses(BadFact("fact"), self.grid.keeps_fact, value)
        self.refuses(NoSign("x"), self.grid.keeps_fact, fact_of("row a c", "row b x", "row e f"))
        self.refuses(NoSign("e"), self.grid.keeps_fact, Saying("row", "a", "e"))

    def test_broken(self):
        facts = [fact_of("row a b", "column a b"), Saying("row", "a", "c"), Saying("row", "a", "b"), fact_of("row a b")]
        book = Book(["a", "b", "c", "d"], facts, 1, 1)
        self.assertEqual(self.grid.broken(book), (0, 2, 3))
        self.assertEqual(self.grid.broken(book=book.without([0, 2, 3])), ())
        self.assertIs(self.grid.keeps(book), False)

    def test_keeps(self):
        book = Book(["a", "b", "c", "d"], sayings_of("row a c", "column b c"))
        self.assertIs(self.grid.keeps(book), True)
        bounds = [(rows, columns) for rows in (None, 1, 2, 3) for columns in (None, 1, 2, 3, 4)]
        for rows, columns in bounds:
            is_room = rows in (None, 2, 3) and columns in (None, 3, 4)
            self.assertIs(self.grid.keeps(book.bounded(rows, columns)), is_room)
            self.assertIs(self.grid.keeps(book.bounded(rows, columns).with_fact(Saying("row", "a", "b"))), False)

    def test_belongs(self):
        fewer, more = Book(["a", "b", "c"]), Book(["a", "b", "c", "d", "e"])
        for call in (self.grid.keeps, self.grid.broken):
            for value in (None, "a b c d : - - : -", self.grid, ["a", "b", "c", "d"]):
                self.refuses(BadBook("book"), call, value)
            for book in (fewer, more, fewer.with_sign("x")):
                self.refuses(Misfit("signs"), call, book)

    def test_sayings(self):
        found = self.grid.sayings()
        orders = [(one.side, one.one, one.other, one.alike) for one in found]
        self.assertIsInstance(found, tuple)
        self.assertEqual((orders, len(found)), (sorted(orders), 12))
        self.assertTrue(all(self.grid.holds(one) for one in found))
        self.assertEqual(Grid(["a"], [0], [0]).sayings(), ())

    def test_crossed(self):
        crossed = self.grid.crossed()
        self.assertEqual(parts(crossed), (self.grid.signs, (0, 1, 1, 2), (0, 1, 0, 1)))
        self.assertEqual((crossed.many_rows, crossed.many_columns), (3, 2))
        self.assertEqual(crossed.crossed(), self.grid)

    def test_renamed(self):
        names = {"a": "z", "b": "y", "c": "x", "d": "w"}
        named = self.grid.renamed(names=names)
        self.assertEqual(parts(named), (("w", "x", "y", "z"), (0, 1, 0, 1), (0, 1, 1, 2)))
        self.assertEqual(named.renamed({name: sign for sign, name in names.items()}), self.grid)
        swapped = self.grid.renamed({"a": "b", "b": "a", "c": "c", "d": "d"})
        self.assertEqual(parts(swapped), (self.grid.signs, (0, 1, 1, 0), (0, 1, 0, 2)))
        for value in (None, {}, [], {**names, "e": "v"}, {"a": "z", "b": "y", "c": "x"}, {**names, "d": "x"},
                      {**names, "d": "W"}, {**names, 0: "w"}, {**names, "d": ["w"]}, list(names.items())):
            self.refuses(BadGrid("names"), self.grid.renamed, value)


class GridFacts(unittest.TestCase):
    def test_alike(self):
        for grid in all_grids(["a", "b", "c", "d"])[::7]:
            for side in ("row", "column"):
                for one, other, third in itertools.permutations(grid.signs, 3):
                    if grid.are_alike(side, one, other) and grid.are_alike(side, other, third):
                        self.assertTrue(grid.are_alike(side, one, third))
            for one, other in itertools.permutations(grid.signs, 2):
                self.assertFalse(grid.are_alike("row", one, other) and grid.are_alike("column", one, other))
            self.assertTrue(4 <= grid.many_rows * grid.many_columns)
            self.assertTrue(max(grid.many_rows, grid.many_columns) <= 4)

    def test_kept_crossed_and_renamed(self):
        names = {"a": "q", "b": "c", "c": "b"}
        facts = [fact_of("row a b", "not column b c"), Saying("column", "a", "c", False), fact_of("row a c", "row b c")]
        for many, bounds in itertools.product(range(4), ((None, None), (2, None), (None, 2), (2, 2))):
            book = Book(["a", "b", "c"], facts[:many], *bounds)
            for grid in all_grids(["a", "b", "c"]):
                kept = grid.keeps(book)
                self.assertIs(grid.crossed().keeps(book.crossed()), kept)
                self.assertIs(grid.renamed(names).keeps(book.renamed(names)), kept)
                self.assertIs(kept, self.kept(grid, book))

    def kept(self, grid, book):
        """Whether the grid keeps the book, told by the places alone."""
        place = dict(zip(grid.signs, zip(grid.rows, grid.columns)))
        shapes = [len({place[sign][at] for sign in place}) for at in (0, 1)]
        for many, bound in zip(shapes, (book.most_rows, book.most_columns)):
            if bound is not None and many > bound:
                return False
        at = {"row": 0, "column": 1}
        return all(any((place[one.one][at[one.side]] == place[one.other][at[one.side]]) is one.alike
                       for one in fact.sayings) for fact in book.facts)


class GridTexts(Case):
    def test_texts(self):
        self.reads(Grid.read, "a : 0 : 0", Grid(["a"], [0], [0]))
        self.reads(Grid.read, "a b c : 0 0 1 : 0 1 0", Grid(["a", "b", "c"], [0, 0, 1], [0, 1, 0]))
        self.reads(Grid.read, "a b c d e f g h : 0 1 2 3 4 5 6 7 : 0 0 0 0 0 0 0 0", Grid(EIGHT, range_of(8), [0] * 8))
        for grid in all_grids(["a", "b", "c"]):
            self.reads(Grid.read, str(grid), grid)

    def test_no_strings(self):
        for value in (None, 0, b"a : 0 : 0", ["a : 0 : 0"], Grid(["a"], [0], [0])):
            self.refuses(BadText(0, 0), Grid.read, value)

    def test_bad_texts(self):
        for text, item in (("", 0), (": 0 : 0", 0), ("a", 1), ("a a", 1), ("b a : 0 1 : 0 1", 1), ("a :", 2), ("a : 1", 2),
                           ("a : 0", 3), ("a : 0 0", 3), ("a : 0 :", 4), ("a : 0 : 1", 4), ("a : 0 : 0 0", 5),
                           ("a b : 0 2", 4), ("a b : 0 : 0 1", 4), ("a b : 0 -1", 4), ("a b : 0 1 : 0 2", 7),
                           ("a b : 0 0 : 0 0", 7), ("a b c : 0 1 0 : 0 0 0", 10), ("a b c : 0 0 1 : 0 0 0", 9),
                           ("a b : 00 1 : 0 1", 3), ("a b : 0 01 : 0 1", 4), ("a b : 0 1 : 0 1 ", 8),
                           ("a b c d e f g h i : 0", 8), ("a b : 0 " + "1" * 61, 4), ("a b : 0 " + "1" * 60, 4),
                           ("a b : 0 \u0661 : 0 1", 4), ("a b : 0 1 : 0  1", 7), ("a b : 0 1 - 0 1", 5)):
            self.refuses(BadText(0, item), Grid.read, text)


if __name__ == "__main__":
    unittest.main()
