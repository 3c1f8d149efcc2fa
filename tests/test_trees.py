"""Refusing trees: found and read row by row; grids that keep a book, beside a plain listing of all grids."""

import itertools
import random
import unittest

from mutesigns.books import Book
from mutesigns.breaks import break_of
from mutesigns.check_trees import is_tree, shows_grid
from mutesigns.errors import BadBook, BadSaying, NoSign, TooMany
from mutesigns.grids import Grid
from mutesigns.papers import Denial, Paper
from mutesigns.possible import Kept, NoGrid, grid_of
from mutesigns.refusing import grid_with, tree_with
from mutesigns.sayings import Saying
from oracles import SIDES, drawn_book, drawn_books, drawn_sayings, is_right_tree, kept_grids, tupled
from support import NO_LISTS, SAME, Case
from test_books import EIGHT
from test_facts import fact_of, sayings_of
from test_grids import all_grids
from test_plain import drawn_plain_books

ABC = ["a", "b", "c"]
ABCD = ["a", "b", "c", "d"]
FIVE = ["a", "b", "c", "d", "e"]
SIX = EIGHT[:6]


def ring_of(signs):
    """That each sign and the next one, and the last and the first, are in unlike rows."""
    return [Saying("row", one, other, False) for one, other in zip(signs, [*signs[1:], signs[0]])]


class Trees(Case):
    def check(self, book, sayings, grids):
        """A grid is found just if there is one, otherwise a tree that is right."""
        grid, tree = grid_with(book, sayings), tree_with(book, sayings)
        if grids:
            self.assertIn(grid, grids)
            self.assertIsNone(tree)
        else:
            self.assertIsNone(grid)
            self.assertTrue(is_right_tree(book, sayings, tree), (str(book), tree))
            self.assertIs(is_tree(book, sayings, tree), True)
            self.assertIsInstance(tree, tuple)
            self.assertEqual(tree, tupled(tree))
        self.assertEqual((grid, tree), (grid_with(book, sayings), tree_with(book, sayings)))
        return tree

    def test_drawn(self):
        draw = random.Random(7)
        for many, books in ((2, 60), (3, 150), (4, 150), (5, 30)):
            for book in drawn_books(many, books, EIGHT[:many]):
                sayings = drawn_sayings(draw, book.signs, draw.choice((0, 0, 1, 2, 3)))
                self.check(book, sayings, kept_grids(book, sayings))

    def test_books_of_one_sign(self):
        for bounds in itertools.product((None, 1, 8), repeat=2):
            self.assertEqual(grid_with(Book(["q"], [], *bounds), []), Grid(["q"], [0], [0]))
            self.assertIsNone(tree_with(Book(["q"], [], *bounds), ()))

    def test_bounds_alone(self):
        for many in range(1, 7):
            for rows, columns in itertools.product((None, 1, 2, 3, 4, 5, 6, 7, 8), repeat=2):
                book = Book(EIGHT[:many], [], rows, columns)
                is_kept = rows is None or columns is None or rows * columns >= many
                self.assertEqual(grid_with(book, []) is not None, is_kept)
                self.assertEqual(tree_with(book, []) is None, is_kept)
                if not is_kept:
                    self.assertTrue(is_right_tree(book, [], tree_with(book, [])))

    def test_rings(self):
        for many in (3, 4, 5, 6):
            ring = ring_of(EIGHT[:many])
            for bound in (2, 3):
                book = Book(EIGHT[:many], ring, bound)
                is_kept = bound == 3 or many in (4, 6)
                self.assertEqual(grid_with(book, []) is not None, is_kept)
                crossed = Book(EIGHT[:many], [], None, bound)
                more = [saying.crossed() for saying in ring]
                self.assertEqual(grid_with(crossed, more) is not None, is_kept)
                if not is_kept:
                    self.assertIsNone(break_of(book, []) if many > 3 else None)
                    self.assertTrue(is_right_tree(book, [], tree_with(book, [])))
                    self.assertTrue(is_right_tree(crossed, more, tree_with(crossed, more)))

    def test_lots_of_a_ring(self):
        told = sayings_of("row a d", "not row a b", "not row b c", "not row c d")
        book = Book(FIVE, told, 2)
        self.assertTrue(is_right_tree(book, [], tree_with(book, [])))
        self.assertIsNotNone(grid_with(book.bounded(3, None), []))
        self.assertIsNotNone(grid_with(book.without([0]), []))

    def test_either_or(self):
        book = Book(ABC, [fact_of("row a b", "row a c"), fact_of("row b c", "not row a b"), fact_of("row b c", "not row a c")])
        self.assertTrue(is_right_tree(book, sayings_of("not row b c"), tree_with(book, sayings_of("not row b c"))))
        self.assertEqual(grid_with(book, []), Grid(ABC, (0, 0, 0), (0, 1, 2)))
        for saying in sayings_of("row a b", "row a c", "row b c"):
            self.assertIsNotNone(grid_with(book, [saying]))
            self.assertIsNotNone(tree_with(book, [saying.contrary()]))

    def test_a_fact_that_always_holds(self):
        book = Book(ABC, [fact_of("row a b", "not row a b"), fact_of("row a c", "not row a c", "column a b")], 1)
        self.assertEqual(grid_with(book, []), Grid(ABC, (0, 0, 0), (0, 1, 2)))
        self.assertEqual(len(kept_grids(book)), 1)
        self.assertTrue(is_right_tree(book, sayings_of("not row a b"), tree_with(book, sayings_of("not row a b"))))

    def test_plain_books_of_many_signs(self):
        draw = random.Random(9)
        for book in drawn_plain_books(8, 150, 8) + [Book(EIGHT), Book(EIGHT[:7])]:
            sayings = drawn_sayings(draw, book.signs, draw.randint(0, 4))
            broken = break_of(book, sayings)
            tree, grid = tree_with(book, sayings), grid_with(book, sayings)
            if broken is None:
                self.assertIsNone(tree)
                self.assertTrue(grid.keeps(book) and all(grid.holds(saying) for saying in sayings))
            else:
                self.assertIsNone(grid)
                self.assertEqual(tree, (broken,))

    def test_six_signs(self):
        draw = random.Random(10)
        grids = all_grids(SIX)
        for book in drawn_books(11, 25, SIX, most_facts=12, bounds=(None, 1, 2, 3, 4)):
            sayings = drawn_sayings(draw, SIX, draw.choice((0, 1, 2)))
            kept = [grid for grid in grids if grid.keeps(book) and all(grid.holds(one) for one in sayings)]
            if not book.is_plain:
                self.check(book, sayings, kept)

    def test_trees_stay_small(self):
        for rows, columns, most in ((2, 2, 40), (1, 5, 12), (5, 1, 12), (1, 1, 4), (2, 1, 8)):
            self.assertLessEqual(len(tree_with(Book(SIX, [], rows, columns), [])), most)
        for book in drawn_books(12, 150, SIX, most_facts=12, bounds=(1, 2, 3)):
            self.assertLessEqual(len(tree_with(book, []) or ()), 50)

    def test_sayings_in_any_order_and_twice(self):
        book = Book(ABCD, [fact_of("row a b", "row c d")], None, 2)
        more = sayings_of("not row a b", "column c d", "row a c", "not column a b")
        expected = bool(kept_grids(book, more))
        for order in itertools.permutations(more):
            for told in (order, [*order, *order]):
                self.assertEqual(grid_with(sayings=told, book=book) is not None, expected)
                self.assertEqual(tree_with(sayings=told, book=book) is None, expected)

    def test_a_contradiction_that_is_told(self):
        for book in (Book(ABC), Book(ABC, [], 3, 3), Book(ABC, [fact_of("row a b", "row a c")])):
            self.assertEqual(tree_with(book, sayings_of("row b c", "not row b c")), (("apart", "row", "b", "c"),))
            self.assertIsNone(grid_with(book, sayings_of("row b c", "not row b c")))


class Possible(Case):
    def test_drawn(self):
        for book in drawn_books(21, 120, ABCD) + [Book(["q"]), Book(["q"], [], 1, 1)]:
            grids = kept_grids(book)
            found = grid_of(book)
            self.assertEqual(found, grid_of(book=book))
            self.assertIs(shows_grid(book, found), True)
            if grids:
                self.assertEqual((type(found), found.kind, found.grid in grids), (Kept, "kept", True))
            else:
                self.assertEqual((type(found), found.kind, bool(found)), (NoGrid, "nogrid", False))
                self.assertTrue(is_right_tree(book, [], found.tree))

    def test_plain_books(self):
        for book in drawn_plain_books(22, 60, 8):
            self.assertEqual(bool(grid_of(book)), break_of(book, []) is None)
            self.assertIs(shows_grid(book, grid_of(book)), True)


class ReadTrees(Case):
    def setUp(self):
        self.tight = Book(ABC, [], 1, 2)
        self.tree = [["row", "a", "b", 1, 2], ["row", "a", "c", 3, 4], ["many", "row", ["a", "b"]],
                     ["many", "column", ["a", "b", "c"]], ["many", "row", ["a", "c"]]]

    def test_lists_and_tuples(self):
        for tree in (self.tree, tupled(self.tree), tuple(self.tree), [tuple(row) for row in self.tree]):
            self.assertIs(is_tree(self.tight, [], tree), True)
        self.assertIs(is_tree(value=self.tree, sayings=(), book=self.tight), True)

    def test_more_rows_than_are_needed(self):
        tree = [["column", "b", "c", 2, 1], ["column", "b", "c", 3, 4], *[None] * 5]
        tree[2] = ["row", "a", "c", 5, 6]
        tree[3] = ["apart", "column", "b", "c"]
        tree[4] = ["row", "a", "b", 7, 8]
        tree[5], tree[6] = ["row", "a", "b", 9, 10], ["many", "row", ["a", "c"]]
        tree += [["row", "a", "c", 11, 12], ["many", "row", ["a", "b"]], ["place", "b", "c"], ["many", "row", ["b", "c"]],
                 ["many", "column", ["a", "b", "c"]], ["many", "row", ["a", "c"]]]
        self.assertEqual(is_right_tree(self.tight, [], tree), True)
        self.assertIs(is_tree(self.tight, [], tree), True)

    def test_what_stands_already_may_be_asked(self):
        book = Book(ABC, sayings_of("row a b", "column a b"))
        tree = [["row", "a", "b", 1, 2], ["place", "a", "b"], ["apart", "row", "a", "b"]]
        self.assertIs(is_tree(book, [], tree), True)
        again = [["row", "a", "b", 1, 2], ["row", "a", "b", 3, 4], *[["place", "a", "b"]] * 3]
        self.assertIs(is_tree(book, [], again), True)
        for many in (1, 50, 3000):
            steps = [["column", "b", "c", 2 * at + 1, 2 * at + 2] for at in range(many)]
            chain = [row for at, step in enumerate(steps) for row in
                     ([step] if at == 0 else [["place", "a", "b"], step])] + [["place", "a", "b"]] * 2
            self.assertIs(is_tree(book, [], chain), True)
            self.assertIs(is_tree(book, [], chain[:-1]), False)

    def test_rows_in_other_orders(self):
        tree = [["row", "a", "b", 2, 1], ["many", "row", ["a", "b"]], ["row", "a", "c", 4, 3],
                ["many", "row", ["a", "c"]], ["many", "column", ["a", "b", "c"]]]
        self.assertIs(is_tree(self.tight, [], tree), True)
        tree[0] = ["row", "a", "b", 1, 2]
        self.assertIs(is_tree(self.tight, [], tree), False)

    def test_what_stands_besides(self):
        more = sayings_of("not row a b")
        self.assertIs(is_tree(self.tight, more, self.tree[2:3]), True)
        self.assertIs(is_tree(self.tight, [], self.tree[2:3]), False)
        self.assertIs(is_tree(self.tight, more, self.tree), True)
        self.assertIs(is_tree(self.tight, more, [["many", "row", ["a", "c"]]]), False)
        self.assertIs(is_tree(Book(ABC), sayings_of("row a b", "row b c", "column a c"), [["place", "a", "c"]]), True)
        self.assertIs(is_tree(Book(ABC), sayings_of("row a b", "column a c"), [["place", "a", "c"]]), False)

    def test_a_tree_of_another_book(self):
        for book in (Book(ABC), Book(ABC, [], 2, 2), Book(ABC, [], 1, 3), Book(ABC, [], 2, 1), Book(ABCD, [], 1, 3),
                     Book(["a", "b"], [], 1, 2), Book(["x", "y", "z"], [], 1, 2)):
            self.assertIs(is_tree(book, [], self.tree), False)
        self.assertIs(is_tree(Book(ABC, sayings_of("row a c"), 1, 2), [], self.tree), False)
        self.assertIs(is_tree(Book(ABC, sayings_of("not column b c"), 1, 2), [], self.tree), True)
        self.assertIs(is_tree(Book(ABCD, [], 1, 2), [], self.tree), True)

    def test_no_rows(self):
        for value in ([], (), [[]], [()], [None], None, True, 0, "", "tree", {}, {0: self.tree[0]}, SAME, [SAME],
                      iter(self.tree), self.tree[0], NoGrid(self.tree), Saying("row", "a", "b"), [self.tree], "many"):
            self.assertIs(is_tree(self.tight, [], value), False, repr(value))
        torn = Book(ABC, sayings_of("row a b", "column a b"))
        for value in ([], (), ["place", "a", "b"], [[["place", "a", "b"]]], "place"):
            self.assertIs(is_tree(torn, [], value), False)
        self.assertIs(is_tree(torn, [], [["place", "a", "b"]]), True)
        self.assertIs(is_tree(torn, [], [["place", "a", "b"], ["place", "a", "b"]]), False)

    def test_wrong_forks(self):
        for fork in (["row", "b", "a", 1, 2], ["row", "a", "a", 1, 2], ["row", "a", "x", 1, 2], ["rows", "a", "b", 1, 2],
                     ["column", "a", "b", 1, 2], ["row", "a", "b", 2, 1], ["row", "a", "b", 1, 1], ["row", "a", "b", 2, 2],
                     ["row", "a", "b", True, 2], ["row", "a", "b", 1, "2"], ["row", "a", "b", 1], ["row", "a", "b"],
                     ["row", "a", "b", 1, 2, 3], ["row", "a", "b", 0, 2], ["row", "a", "b", 1, 5], ["row", "a", "b", -4, 2],
                     ["row", "a", "b", 1, -3], ["row", "a", "b", 1, None], ["row", "a", "b", 1, [2]], ["row", ["a", "b"], 1, 2],
                     [["row"], "a", "b", 1, 2], [None, "a", "b", 1, 2], ["row", None, "b", 1, 2], ["row", SAME, "b", 1, 2],
                     [SAME, "a", "b", 1, 2], ["row", "a", "b", SAME, 2], ["row", "a", "b", 1, SAME], ["row", "a", "b", 1.0, 2],
                     ["row", "a", "b", 1, 3], ["row", "a", "b", 3, 2], ["row", "a", "c", 1, 2], "rowab", None, []):
            self.assertIs(is_tree(self.tight, [], [fork, *self.tree[1:]]), False, fork)
        for fork in (["row", "a", "c", True, 4], ["row", "a", "c", 3, True], ["row", "a", "c", 1, 4], ["row", "a", "c", 2, 4],
                     ["row", "a", "c", 3, 2], ["row", "a", "c", 3, 5], ["row", "a", "c", 4, 3], ["row", "a", "c", 3, 3],
                     ["row", "a", "c", 0, 4], ["row", "a", "b", 3, 4], ["row", "c", "a", 3, 4]):
            self.assertIs(is_tree(self.tight, [], [self.tree[0], fork, *self.tree[2:]]), False, fork)

    def test_a_row_that_none_names(self):
        self.assertIs(is_tree(self.tight, [], [*self.tree, self.tree[4]]), False)
        self.assertIs(is_tree(self.tight, [], [*self.tree[:2], self.tree[2], self.tree[2], *self.tree[3:]]), False)
        self.assertIs(is_tree(self.tight, [], [["many", "row", ["a", "b"]], *self.tree[1:]]), False)

    def test_a_row_that_is_named_twice(self):
        for tree in ([["row", "a", "b", 1, 1], ["many", "row", ["a", "b"]]],
                     [["column", "a", "b", 1, 2], ["row", "a", "b", 3, 4], ["row", "a", "b", 3, 4],
                      ["row", "a", "c", 5, 6], *self.tree[2:]],
                     [["row", "a", "b", 1, 2], ["row", "a", "c", 3, 2], ["many", "row", ["a", "b"]],
                      ["many", "column", ["a", "b", "c"]]],
                     [["row", "a", "b", 1, 2], ["row", "a", "c", 3, 2], ["many", "row", ["a", "c"]],
                      ["many", "column", ["a", "b", "c"]]],
                     [["row", "a", "b", 2, 2], ["row", "a", "b", 2, 2], ["many", "row", ["a", "b"]]]):
            self.assertIs(is_tree(self.tight, [], tree), False, tree)

    def test_a_row_named_by_one_behind_it(self):
        tree = [["row", "a", "b", 2, 3], self.tree[4], ["row", "a", "c", 4, 1], self.tree[2], self.tree[3]]
        self.assertIs(is_tree(self.tight, [], tree), False)
        tree = [["row", "a", "b", 1, 3], ["row", "a", "c", 2, 4], self.tree[3], self.tree[2], self.tree[4]]
        self.assertIs(is_tree(self.tight, [], tree), True)

    def test_wrong_leaves(self):
        for at, leaf in itertools.product((2, 3, 4), (
                ["many", "row", ["b", "c"]], ["many", "column", ["a", "b"]], ["many", "row", ["a", "b", "c"]],
                ["place", "a", "b"], ["many", "row", ["b", "a"]], ["many", "row", ["c", "a"]], ["fact", 0], [], None,
                ["many", "column", ["c", "b", "a"]], ["many", "column", ["a", "b", "c", "d"]], ["apart", "row", "a", "b"],
                ["many", "column", ["a", "b", "x"]], "many", ["many", "row", ["a"]], SAME, ["read", []])):
            tree = [*self.tree[:at], leaf, *self.tree[at + 1:]]
            is_right = at == 4 and repr(leaf) == "['many', 'row', ['b', 'c']]"
            self.assertIs(is_tree(self.tight, [], tree), is_right, tree)
        self.assertIs(is_tree(Book(["a", "b"], sayings_of("row a b")), sayings_of("not row a b"), [["fact", False]]), False)

    def test_bent(self):
        draw = random.Random(31)
        seen = {True: 0, False: 0}
        for book in drawn_books(32, 200, ABCD, most_facts=7, bounds=(None, 1, 2)):
            tree = tree_with(book, [])
            for _ in range(0 if tree is None else 12):
                value = self.bent(draw, list(tree), book)
                seen[is_right_tree(book, [], value)] += 1
                self.assertIs(is_tree(book, [], value), is_right_tree(book, [], value), (str(book), value))
        self.assertTrue(min(seen.values()) > 100)

    def bent(self, draw, rows, book):
        """The rows with one change, that may leave them right."""
        at, to = draw.randrange(len(rows)), draw.randrange(len(rows))
        way = draw.randrange(6)
        if way == 0:
            del rows[at]
        elif way == 1:
            rows.insert(at, rows[to])
        elif way == 2:
            rows[at], rows[to] = rows[to], rows[at]
        elif way == 3:
            row = list(rows[at])
            spot = draw.randrange(len(row))
            row[spot] = draw.choice([part for row in rows for part in row])
            rows[at] = row
        elif way == 4:
            one, other = sorted(draw.sample(book.signs, 2))
            last = len(rows)
            rows = [(*row[:3], row[3] + 1, row[4] + 1) if len(row) == 5 else row for row in rows]
            rows = [(draw.choice(SIDES), one, other, 1, last + 1), *rows, draw.choice([row for row in rows if len(row) < 5])]
        return rows


class ShowsGrid(Case):
    def setUp(self):
        self.tight = Book(ABC, [], 1, 2)
        self.tree = [["row", "a", "b", 1, 2], ["row", "a", "c", 3, 4], ["many", "row", ["a", "b"]],
                     ["many", "column", ["a", "b", "c"]], ["many", "row", ["a", "c"]]]

    def test_each_grid(self):
        for book in drawn_books(41, 60, ABC):
            for grid in all_grids(ABC):
                self.assertIs(shows_grid(book, Kept(grid)), grid.keeps(book))
                self.assertIs(shows_grid(value=Kept(grid), book=book), grid.keeps(book))

    def test_other_signs(self):
        for signs in (["a", "b"], ABCD, ["a", "b", "d"]):
            grid = Grid(signs, [0] * len(signs), list(range(len(signs))))
            self.assertIs(shows_grid(Book(ABC), Kept(grid)), False)
            self.assertIs(shows_grid(Book(signs), Kept(grid)), True)

    def test_trees(self):
        self.assertIs(shows_grid(self.tight, NoGrid(self.tree)), True)
        self.assertIs(shows_grid(self.tight, NoGrid(tupled(self.tree))), True)
        for tree in (self.tree[1:], self.tree[:4], [], None, SAME, "tree", [self.tree], self.tree[2:3]):
            self.assertIs(shows_grid(self.tight, NoGrid(tree)), False)
        self.assertIs(shows_grid(Book(ABC, [], 1), NoGrid(self.tree)), False)

    def test_other_values(self):
        grid = Grid(ABC, (0, 0, 0), (0, 1, 2))
        for value in (grid, None, True, SAME, Paper("kept", grid), Denial("nogrid", self.tree), self.tree, (grid,), "kept",
                      Kept(None), Kept([grid]), Kept(str(grid)), Kept(SAME), Kept(Book(ABC)), NoGrid(grid), Kept(self.tree)):
            self.assertIs(shows_grid(Book(ABC, [], 1), value), False)
            self.assertIs(shows_grid(self.tight, value), False)

    def test_a_class_below(self):
        class Below(Kept):
            pass

        grid = Grid(ABC, (0, 0, 0), (0, 1, 2))
        self.assertIs(shows_grid(Book(ABC), Below(grid)), False)
        self.assertIs(shows_grid(Book(ABC), Kept(grid)), True)

    def test_many_signs(self):
        told = [Saying("row", one, other, False) for one, other in itertools.combinations(EIGHT, 2)]
        book = Book(EIGHT, told[:11], 2)
        self.assertIs(shows_grid(book, NoGrid([["many", "row", ["a", "b", "c"]]])), True)
        self.assertIs(shows_grid(book.bounded(None, 1), Kept(Grid(EIGHT, list(range(8)), [0] * 8))), True)


class TreeErrors(Case):
    def setUp(self):
        self.right = {"book": Book(ABC), "sayings": sayings_of("row a b")}
        self.faults = [
            (BadBook("book"), {"book": "a b c : - - : -"}), (BadSaying("sayings"), {"sayings": [Saying("row", "a", "x"), 1]}),
            (NoSign("i"), {"sayings": sayings_of("row a b", "row c i", "row j k")})]
        self.large = [Book(EIGHT[:7], [], 8), Book(EIGHT, [], None, 8), Book(EIGHT, [fact_of("row a b", "row a c")]),
                      Book(EIGHT[:7], [fact_of("row a b", "not row a b")])]

    def test_order(self):
        for call in (tree_with, grid_with):
            self.refuses_in_order(call, self.right, [*self.faults, (TooMany("signs", 6), {"book": self.large[0]})])
        self.refuses_in_order(is_tree, {**self.right, "value": None}, self.faults)

    def test_each(self):
        s = Saying("row", "a", "b")
        for value in (None, 0, "a : - - : -", ["a"], s):
            self.refuses(BadBook("book"), grid_of, value)
            for paper in (None, Kept(Grid(ABC, (0, 0, 0), (0, 1, 2))), NoGrid([])):
                self.refuses(BadBook("book"), shows_grid, value, paper)
            for call, more in ((tree_with, ()), (grid_with, ()), (is_tree, (None,)), (is_tree, ([["place", "a", "b"]],))):
                self.refuses(BadBook("book"), call, value, [], *more)
        for call, more in ((tree_with, ()), (grid_with, ()), (is_tree, (None,))):
            for value in NO_LISTS + [[None], [s, "row a b"], s, [fact_of("row a b")], [[s]]]:
                self.refuses(BadSaying("sayings"), call, Book(ABC), value, *more)
            self.refuses(NoSign("d"), call, Book(ABC), [s, Saying("row", "e", "d")], *more)
            self.refuses(NoSign("x"), call, Book(ABC), [Saying("row", "a", "x"), Saying("row", "d", "e")], *more)

    def test_too_many_signs(self):
        for book in self.large:
            self.refuses(TooMany("signs", 6), tree_with, book, [])
            self.refuses(TooMany("signs", 6), grid_with, book, sayings_of("row a b"))
            self.refuses(TooMany("signs", 6), grid_of, book)
            self.assertIs(is_tree(book, sayings_of("row a b", "column a b"), [["place", "a", "b"]]), True)
            self.assertIs(shows_grid(book, None), False)
        for book in (Book(EIGHT[:6], [], 8, 8), Book(EIGHT), Book(EIGHT, sayings_of("row a b"))):
            self.assertIsNotNone(grid_with(book, []))


if __name__ == "__main__":
    unittest.main()
