"""Fewest and most rows and columns, least shapes, and the papers that show them: beside a plain listing of all grids."""

import itertools
import random
import unittest

from mutesigns.books import Book
from mutesigns.check_counts import shows_fewest, shows_most, shows_shapes
from mutesigns.errors import BadBook, BadSide, Impossible, TooMany
from mutesigns.extremes import Fewest, Most, Shapes, fewest_of, least_shapes, most_of
from mutesigns.facts import Fact
from mutesigns.grids import Grid
from mutesigns.papers import Denial, Paper
from mutesigns.possible import Kept, NoGrid, grid_of
from mutesigns.refusing import tree_with
from mutesigns.sayings import Saying
from oracles import SIDES, drawn_books, drawn_sayings, is_right_tree, kept_grids
from support import NO_SIDES, SAME, Case
from test_books import EIGHT
from test_facts import fact_of, sayings_of
from test_grids import all_grids
from test_listing import NO_BOOKS, SEVEN, shape

ABC = ["a", "b", "c"]
ABCD = ["a", "b", "c", "d"]
TREES = (None, [], (), SAME, "tree", [["place", "a", "b"]], [["fact", 0]], [None], 0)


def many_on(grid, side):
    return shape(grid)[0 if side == "row" else 1]


def bounded(book, side, most):
    """The book with this bound in the place of its own on the side."""
    return book.bounded(most, book.most_columns) if side == "row" else book.bounded(book.most_rows, most)


def apart(side, signs):
    return [Saying(side, one, other, False) for one, other in itertools.combinations(signs, 2)]


def least_of(kept):
    """The least shapes of these grids."""
    shapes = {shape(grid) for grid in kept}
    return sorted(one for one in shapes if not any(other != one and other[0] <= one[0] and other[1] <= one[1] for other in shapes))


def shape_bounds(book, shapes):
    """The pairs of bounds of the trees that shapes want."""
    found = [(shapes[0][0] - 1, book.most_columns)]
    found += [(behind[0] - 1, ahead[1] - 1) for ahead, behind in zip(shapes, shapes[1:])]
    return [*found, (book.most_rows, shapes[-1][1] - 1)]


class Extremes(Case):
    def is_tree_of(self, book, tree):
        """A refusing tree of a book, None if one of its bounds would be 0."""
        if book is None:
            return tree is None
        return is_right_tree(book, [], tree)

    def check(self, book, kept):
        for side in SIDES:
            self.check_fewest(book, side, min(many_on(grid, side) for grid in kept))
            self.check_most(book, side, max(many_on(grid, side) for grid in kept))
        self.check_shapes(book, least_of(kept))

    def check_fewest(self, book, side, many):
        found = fewest_of(book, side)
        self.assertEqual((type(found), found.kind, found), (Fewest, "fewest", fewest_of(side=side, book=book)))
        self.assertTrue(found.grid.keeps(book))
        self.assertEqual(many_on(found.grid, side), many)
        self.assertTrue(self.is_tree_of(None if many == 1 else bounded(book, side, many - 1), found.tree))
        self.assertIs(shows_fewest(book, side, found), True)

    def check_most(self, book, side, many):
        found = most_of(book, side)
        self.assertEqual((type(found), found.kind, found), (Most, "most", most_of(side=side, book=book)))
        self.assertTrue(found.grid.keeps(book))
        self.assertEqual(many_on(found.grid, side), many)
        lots = list(itertools.combinations(book.signs, many + 1))
        self.assertEqual(len(found.trees), len(lots))
        self.assertTrue(all(is_right_tree(book, apart(side, lot), tree) for lot, tree in zip(lots, found.trees)))
        self.assertIs(shows_most(book, side, found), True)

    def check_shapes(self, book, shapes):
        found = least_shapes(book)
        self.assertEqual((type(found), found.kind, found), (Shapes, "shapes", least_shapes(book=book)))
        self.assertEqual([shape(grid) for grid in found.grids], shapes)
        self.assertTrue(all(grid.keeps(book) for grid in found.grids))
        bounds = shape_bounds(book, shapes)
        self.assertEqual(len(found.trees), len(bounds))
        for two, tree in zip(bounds, found.trees):
            self.assertTrue(self.is_tree_of(None if 0 in two else book.bounded(*two), tree))
        self.assertIs(shows_shapes(book, found), True)

    def test_drawn(self):
        many_shapes = []
        for many, count in ((2, 30), (3, 70), (4, 70)):
            for book in drawn_books(60 + many, count, EIGHT[:many], most_facts=5):
                kept = kept_grids(book)
                if kept:
                    self.check(book, kept)
                    many_shapes.append(len(least_of(kept)))
        self.assertTrue(all(many_shapes.count(many) > 5 for many in (1, 2, 3)), many_shapes)

    def test_no_facts(self):
        for many in (1, 2, 3, 4, 5):
            for bounds in itertools.product((None, 1, 2, 4, 8), repeat=2):
                book = Book(EIGHT[:many], [], *bounds)
                if grid_of(book):
                    self.check(book, kept_grids(book))

    def test_six_signs(self):
        draw = random.Random(64)
        for bounds in ((None, None), (3, None), (2, 3), (4, 5)):
            facts = [Fact(drawn_sayings(draw, EIGHT[:6], many)) for many in (1, 2, 2, 3)]
            for book in (Book(EIGHT[:6], [], *bounds), Book(EIGHT[:6], facts, *bounds)):
                if grid_of(book):
                    grids = all_grids(EIGHT[:6])
                    self.check(book, [grid for grid in grids if grid.keeps(book)])

    def test_nones_and_nothing(self):
        book = Book(ABC)
        for side in SIDES:
            self.assertIsNone(fewest_of(book, side).tree)
            self.assertEqual(most_of(book, side).trees, ())
        self.assertEqual([shape(grid) for grid in least_shapes(book).grids], [(1, 3), (2, 2), (3, 1)])
        self.assertEqual([tree is None for tree in least_shapes(book).trees], [True, False, False, True])


class ShowsFewest(Case):
    def test_each_grid(self):
        draw = random.Random(65)
        for book in drawn_books(66, 40, ABC, most_facts=3):
            kept = kept_grids(book)
            for side in SIDES:
                fewest = min([many_on(grid, side) for grid in kept], default=0)
                for grid in draw.sample(all_grids(ABC), 8):
                    many = many_on(grid, side)
                    tree = tree_with(bounded(book, side, many - 1), []) if many > 1 else None
                    self.assertIs(shows_fewest(book, side, Fewest(grid, tree)), grid in kept and many == fewest)

    def test_trees(self):
        book, grid = Book(["a", "b"], sayings_of("not row a b")), Grid(["a", "b"], (0, 1), (0, 0))
        right = [["many", "row", ["a", "b"]]]
        forked = [["row", "a", "b", 1, 2], ["apart", "row", "a", "b"], ["many", "row", ["a", "b"]]]
        for tree, is_right in ((right, True), (tuple(right), True), (forked, True), *[(tree, False) for tree in TREES],
                               ([["many", "column", ["a", "b"]]], False), ([*right, *right], False), (right[0], False)):
            self.assertIs(shows_fewest(value=Fewest(grid, tree), side="row", book=book), is_right, tree)
        for tree in (*TREES, right):
            self.assertIs(shows_fewest(book, "column", Fewest(grid, tree)), tree is None)

    def test_own_bounds(self):
        book = Book(ABC, sayings_of("not row a b"), 3, 2)
        tree = [["many", "row", ["a", "b"]]]
        two, three = Grid(ABC, (0, 1, 0), (0, 0, 1)), Grid(ABC, (0, 1, 2), (0, 0, 0))
        self.assertIs(shows_fewest(book, "row", Fewest(two, tree)), True)
        self.assertIs(shows_fewest(book, "row", Fewest(three, tree)), False)
        self.assertIs(shows_fewest(book, "column", Fewest(three, None)), True)
        self.assertIs(shows_fewest(book, "column", Fewest(two, None)), False)
        crowded = Book(ABC, [], None, 2)
        tree = grid_of(Book(ABC, [], 1, 2)).tree
        self.assertIs(shows_fewest(crowded, "row", Fewest(two, tree)), True)
        self.assertIs(shows_fewest(Book(ABC), "row", Fewest(two, tree)), False)
        self.assertIs(shows_fewest(Book(ABC, [], 1, 2), "row", Fewest(two, tree)), False)

    def test_grids(self):
        book, tree = Book(["a", "b"], sayings_of("not row a b")), [["many", "row", ["a", "b"]]]
        for grid in (None, SAME, "a b : 0 1 : 0 0", Grid(ABC, (0, 1, 1), (0, 0, 1)), Grid(["a", "c"], (0, 1), (0, 0)), book,
                     Kept(Grid(["a", "b"], (0, 1), (0, 0))), [Grid(["a", "b"], (0, 1), (0, 0))], Grid(["a", "b"], (0, 0), (0, 1))):
            self.assertIs(shows_fewest(book, "row", Fewest(grid, tree)), False)

    def test_large_books(self):
        ring = sayings_of("not row a b", "not row b c", "not row a c")
        for signs in (SEVEN, EIGHT):
            book = Book(signs, [*ring, fact_of("row a d", "row a e")], None, 8)
            rows = (0, 1, 2, 0, 0, 0, 0, 0)[:len(signs)]
            grid = Grid(signs, rows, (0, 0, 0, 1, 2, 3, 4, 5)[:len(signs)])
            tree = [["many", "row", ["a", "b", "c"]]]
            self.assertIs(shows_fewest(book, "row", Fewest(grid, tree)), True)
            self.assertIs(shows_fewest(book, "row", Fewest(grid, None)), False)
            self.assertIs(shows_fewest(book, "column", Fewest(grid, tree)), False)


class ShowsMost(Case):
    def test_each_grid(self):
        draw = random.Random(67)
        for book in drawn_books(68, 40, ABC, most_facts=3):
            kept = kept_grids(book)
            for side in SIDES:
                most = max([many_on(grid, side) for grid in kept], default=0)
                for grid in draw.sample(all_grids(ABC), 8):
                    lots = list(itertools.combinations(ABC, many_on(grid, side) + 1))
                    trees = [tree_with(book, apart(side, lot)) for lot in lots]
                    self.assertIs(shows_most(book, side, Most(grid, trees)), grid in kept and many_on(grid, side) == most)

    def test_trees(self):
        book, grid = Book(ABC, sayings_of("row a b"), 2), Grid(ABC, (0, 0, 1), (0, 1, 0))
        tree = [["apart", "row", "a", "b"]]
        self.assertIs(shows_most(book, "row", Most(grid, [tree])), True)
        self.assertIs(shows_most(book, "row", Most(grid, [[["many", "row", ["a", "b", "c"]]]])), False)
        free = Book(ABC, [fact_of("row a b", "row a c")], 2)
        self.assertIs(shows_most(free, "row", Most(grid, [[["many", "row", ["a", "b", "c"]]]])), True)
        self.assertIs(shows_most(free.bounded(3, 3), "row", Most(grid, [[["fact", 0]]])), True)
        for trees in (None, SAME, [], tree, [tree, tree], [None], [tree[0]], "abc", {0: tree}, [[["apart", "row", "a", "c"]]], [SAME]):
            self.assertIs(shows_most(value=Most(grid, trees), side="row", book=book), False)
        two = [[["apart", "row", "a", "b"]], [["place", "a", "c"]], [["place", "b", "c"]]]
        book = Book(ABC, sayings_of("row a b", "row b c", "column a c"))
        self.assertIs(shows_most(book, "row", Most(Grid(ABC, (0, 0, 0), (0, 1, 2)), two)), False)
        book = Book(ABC, sayings_of("row a b", "row b c"))
        one_row = Grid(ABC, (0, 0, 0), (0, 1, 2))
        trees = [[["apart", "row", *lot]] for lot in (("a", "b"), ("a", "c"), ("b", "c"))]
        for order in itertools.permutations(range(3)):
            self.assertIs(shows_most(book, "row", Most(one_row, [trees[at] for at in order])), order == (0, 1, 2))
        self.assertIs(shows_most(book, "row", Most(one_row, trees[:2])), False)
        self.assertIs(shows_most(book, "column", Most(one_row, [])), True)
        self.assertIs(shows_most(book, "column", Most(one_row, trees)), False)
        self.assertIs(shows_most(book, "row", Most(one_row, [])), False)

    def test_grids(self):
        for grid in (None, SAME, "a", Grid(["a", "c"], (0, 1), (0, 0)), Kept(1), [Grid(["a", "b"], (0, 1), (0, 0))],
                     Grid(ABC, (0, 1, 2), (0, 0, 0))):
            self.assertIs(shows_most(Book(["a", "b"]), "row", Most(grid, [])), False)
        self.assertIs(shows_most(Book(["a", "b"]), "row", Most(Grid(["a", "b"], (0, 1), (0, 0)), [])), True)

    def test_large_books(self):
        for signs in (SEVEN, EIGHT):
            book = Book(signs, [fact_of("row a b", "row a c")], 4, 8)
            grid = Grid(signs, (0, 0, 1, 2, 3, 3, 3, 3)[:len(signs)], (0, 1, 0, 0, 0, 1, 2, 3)[:len(signs)])
            lots = list(itertools.combinations(signs, 5))
            trees = [[["many", "row", list(lot)]] for lot in lots]
            self.assertIs(shows_most(book, "row", Most(grid, trees)), True)
            self.assertIs(shows_most(book, "row", Most(grid, trees[:-1])), False)
            self.assertIs(shows_most(book, "row", Most(grid, trees[::-1])), False)
            self.assertIs(shows_most(book, "column", Most(grid, trees)), False)
            free = Grid(signs, list(range(len(signs))), [0] * len(signs))
            self.assertIs(shows_most(Book(signs), "row", Most(free, [])), True)
            self.assertIs(shows_most(Book(signs, [], 8, 8), "row", Most(free, [])), True)


class ShowsShapes(Case):
    def test_each_lot_of_grids(self):
        draw = random.Random(69)
        for book in drawn_books(70, 40, ABC, most_facts=3):
            kept = kept_grids(book)
            least = least_of(kept)
            lots = [draw.sample(all_grids(ABC), draw.randint(1, 3)) for _ in range(6)] + [[grid] for grid in kept[:4]]
            if kept:
                lots += [list(least_shapes(book).grids), list(least_shapes(book).grids)[::-1]]
            for grids in lots:
                bounds = shape_bounds(book, [shape(grid) for grid in grids])
                trees = [None if 0 in two else tree_with(book.bounded(*two), []) for two in bounds]
                is_right = all(grid in kept for grid in grids) and [shape(grid) for grid in grids] == least
                self.assertIs(shows_shapes(book, Shapes(grids, trees)), is_right)

    def test_one_shape_more(self):
        book = Book(ABCD, [], 4, 4)
        found = least_shapes(book)
        self.assertEqual([shape(grid) for grid in found.grids], [(1, 4), (2, 2), (4, 1)])
        more = Grid(ABCD, (0, 0, 1, 2), (0, 1, 0, 1))
        for grids, trees in (
                ([*found.grids[:2], more, found.grids[2]], [*found.trees[:2], found.trees[2], found.trees[2], found.trees[3]]),
                ([*found.grids[:2], more, found.grids[2]], [*found.trees[:2], None, found.trees[2], found.trees[3]]),
                ([found.grids[0], found.grids[2]], [found.trees[0], found.trees[1], found.trees[3]]),
                (found.grids[::-1], found.trees), (found.grids[:2], found.trees[:3]), (found.grids, found.trees[::-1][1:])):
            self.assertIs(shows_shapes(book, Shapes(grids, trees)), False)
        self.assertIs(shows_shapes(value=found, book=book), True)

    def test_shapes_that_are_not_least_with_right_trees(self):
        for book, shapes, is_right in (
                (Book(ABC, sayings_of("not column a b")), [(1, 3), (2, 2)], True),
                (Book(ABC, sayings_of("not column a b")), [(1, 3), (2, 2), (3, 2)], False),
                (Book(ABC, sayings_of("not column a b")), [(1, 3), (2, 2), (2, 2)], False),
                (Book(ABC, sayings_of("not row a b")), [(2, 2), (3, 1)], True),
                (Book(ABC, sayings_of("not row a b")), [(2, 3), (2, 2), (3, 1)], False),
                (Book(ABC, sayings_of("not row a b")), [(2, 2), (2, 2), (3, 1)], False)):
            kept = kept_grids(book)
            grids = [next(grid for grid in kept if shape(grid) == told) for told in shapes]
            trees = [None if 0 in two else grid_of(book.bounded(*two)).tree for two in shape_bounds(book, shapes)]
            self.assertIs(shows_shapes(book, Shapes(grids, trees)), is_right)

    def test_trees(self):
        book = Book(ABC)
        found = least_shapes(book)
        self.assertIs(shows_shapes(book, Shapes(list(found.grids), list(found.trees))), True)
        for at in range(4):
            for tree in (*TREES, *found.trees):
                trees = [*found.trees]
                trees[at] = tree
                is_right = tree is found.trees[at]
                self.assertIs(shows_shapes(book, Shapes(found.grids, trees)), is_right)
        for trees in (None, SAME, [], found.trees[:3], [*found.trees, None], "abcd", dict(enumerate(found.trees))):
            self.assertIs(shows_shapes(book, Shapes(found.grids, trees)), False)

    def test_grids(self):
        book = Book(ABC)
        found = least_shapes(book)
        for at in range(3):
            for grid in (*all_grids(ABC), None, SAME, Grid(["a", "b"], (0, 1), (0, 0)), Kept(found.grids[at]), "a"):
                grids = [*found.grids]
                grids[at] = grid
                is_right = isinstance(grid, Grid) and len(grid.signs) == 3 and shape(grid) == shape(found.grids[at])
                self.assertIs(shows_shapes(book, Shapes(grids, found.trees)), is_right)
        for grids in (None, SAME, [], found.grids[0], "abc", dict(enumerate(found.grids)), [*found.grids, found.grids[2]]):
            self.assertIs(shows_shapes(book, Shapes(grids, found.trees)), False)

    def test_no_grid_at_all(self):
        for book in (Book(ABC, [], 1, 2), Book(ABC, sayings_of("row a b", "column a b"))):
            for trees in ([], [None], [grid_of(book).tree], [grid_of(book).tree] * 2):
                self.assertIs(shows_shapes(book, Shapes([], trees)), False)
                self.assertIs(shows_shapes(book, Shapes([Grid(ABC, (0, 0, 0), (0, 1, 2))], trees)), False)

    def test_own_bounds(self):
        book = Book(ABC, [], 2, 2)
        grid = Grid(ABC, (0, 0, 1), (0, 1, 0))
        trees = [grid_of(Book(ABC, [], *bounds)).tree for bounds in ((1, 2), (2, 1))]
        self.assertIs(shows_shapes(book, Shapes([grid], trees)), True)
        self.assertIs(shows_shapes(book, Shapes([grid], trees[::-1])), False)
        self.assertIs(shows_shapes(Book(ABC), Shapes([grid], trees)), False)

    def test_large_books(self):
        for signs in (SEVEN, EIGHT):
            book = Book(signs, sayings_of("not row a b"), 2, 8)
            many = len(signs)
            grid = Grid(signs, (0, 1, *[0] * (many - 2)), (0, 0, *range(1, many - 1)))
            self.assertIs(shows_shapes(book, Shapes([grid], [[["many", "row", ["a", "b"]]], None])), False)
            free = Book(signs, [Saying("row", "a", sign) for sign in signs[1:]])
            row = Grid(signs, [0] * many, list(range(many)))
            crowd = [["many", "column", list(signs)]]
            self.assertIs(shows_shapes(free, Shapes([row], [None, crowd])), True)
            self.assertIs(shows_shapes(free, Shapes([row], [crowd, None])), False)
            self.assertIs(shows_fewest(free, "column", Fewest(row, crowd)), True)


class CountErrors(Case):
    def test_order(self):
        seven, torn = Book(SEVEN), Book(ABC, [], 1, 2)
        faults = [(BadBook("book"), {"book": 0}), (BadSide("side"), {"side": "rows"})]
        for call in (fewest_of, most_of):
            for last in ((TooMany("signs", 6), {"book": seven}), (Impossible(grid_of(torn)), {"book": torn})):
                self.refuses_in_order(call, {"book": Book(ABC), "side": "row"}, [*faults, last])
        for call in (shows_fewest, shows_most):
            self.refuses_in_order(call, {"book": Book(ABC), "side": "row", "value": None}, faults)

    def test_each(self):
        for value in NO_BOOKS:
            self.refuses(BadBook("book"), least_shapes, value)
            self.refuses(BadBook("book"), shows_shapes, value, None)
            for call, more in ((fewest_of, ()), (most_of, ()), (shows_fewest, (None,)), (shows_most, (None,))):
                self.refuses(BadBook("book"), call, value, "row", *more)
        for value in NO_SIDES:
            for call, more in ((fewest_of, ()), (most_of, ()), (shows_fewest, (None,)), (shows_most, (None,))):
                self.refuses(BadSide("side"), call, Book(ABC), value, *more)

    def test_too_many_and_impossible(self):
        for book in (Book(SEVEN), Book(EIGHT), Book(SEVEN, [], 2, 2), Book(SEVEN, sayings_of("row a b", "column a b"))):
            for call, more in ((fewest_of, ("row",)), (most_of, ("column",)), (least_shapes, ())):
                self.refuses(TooMany("signs", 6), call, book, *more)
        for book in (Book(ABC, [], 1, 2), Book(ABC, sayings_of("row a b", "column a b")), Book(EIGHT[:6], [], 2, 2)):
            for call, more in ((fewest_of, ("row",)), (most_of, ("column",)), (least_shapes, ())):
                self.refuses(Impossible(grid_of(book)), call, book, *more)
            for call, more in ((shows_fewest, ("row",)), (shows_most, ("column",)), (shows_shapes, ())):
                self.assertIs(call(book, *more, None), False)

    def test_other_values(self):
        grid, tree = Grid(["a", "b"], (0, 1), (0, 0)), [["many", "row", ["a", "b"]]]
        book = Book(["a", "b"], sayings_of("not row a b"))
        values = [None, True, SAME, grid, tree, (grid, tree), Paper("fewest", grid, tree), Paper("most", grid, []), NoGrid(tree),
                  Paper("shapes", [grid], [tree, None]), Denial("fewest", grid, tree), Kept(grid), "fewest"]
        for value in [*values, Most(grid, tree), Shapes([grid], [tree, None]), Most(grid, [])]:
            self.assertIs(shows_fewest(book, "row", value), False)
        for value in [*values, Fewest(grid, []), Shapes([grid], [tree, None])]:
            self.assertIs(shows_most(book, "row", value), False)
        for value in [*values, Fewest([grid], [tree, None]), Most([grid], [tree, None])]:
            self.assertIs(shows_shapes(book, value), False)

    def test_papers(self):
        paper = Fewest(tree=[2], grid=[1])
        self.assertEqual((paper.grid, paper.tree, paper.parts), ((1,), (2,), ((1,), (2,))))
        paper = Most(trees=[2], grid=[1])
        self.assertEqual((paper.grid, paper.trees, paper.kind), ((1,), (2,), "most"))
        paper = Shapes(trees=[2], grids=[1])
        self.assertEqual((paper.grids, paper.trees, paper.kind, bool(paper)), ((1,), (2,), "shapes", True))


if __name__ == "__main__":
    unittest.main()
