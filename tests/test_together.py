"""Sayings that stand together or quarrel, and the papers that show it: beside a plain listing of all grids."""

import itertools
import random
import unittest

from mutesigns.books import Book
from mutesigns.check_answers import shows_together
from mutesigns.errors import BadBook, BadSaying, Impossible, NoSign, TooMany
from mutesigns.grids import Grid
from mutesigns.papers import Denial, Paper
from mutesigns.possible import Kept, NoGrid, grid_of
from mutesigns.sayings import Saying
from mutesigns.together import Quarrel, Together, together
from oracles import Seen, drawn_books, drawn_sayings, is_right_tree, kept_grids
from support import NO_LISTS, SAME, Case
from test_answers import LARGE, TORN
from test_books import EIGHT
from test_facts import fact_of, sayings_of
from test_grids import all_grids
from test_plain import drawn_plain_books

ABC = ["a", "b", "c"]
ABCD = ["a", "b", "c", "d"]


def quarrel_in(grids, sayings):
    """The numbers of the quarrel to which it leads to leave out, going up, what is not needed for one."""
    left = list(range(len(sayings)))
    for number in range(len(sayings)):
        without = [one for one in left if one != number]
        if not any(all(grid.holds(sayings[one]) for one in without) for grid in grids):
            left = without
    return tuple(left)


class TogetherOrNot(Case):
    def check(self, book, sayings, grids):
        found = together(book, sayings)
        self.assertEqual(found, together(sayings=tuple(sayings), book=book))
        self.assertIs(shows_together(book, sayings, found), True)
        held = [grid for grid in grids if all(grid.holds(saying) for saying in sayings)]
        if held:
            self.assertEqual((type(found), found.kind, found.grid in held), (Together, "together", True))
            return found
        self.assertEqual((type(found), found.kind, bool(found)), (Quarrel, "quarrel", False))
        self.assertEqual(found.numbers, quarrel_in(grids, sayings))
        self.assertTrue(is_right_tree(book, [sayings[number] for number in found.numbers], found.tree))
        self.assertEqual(len(found.grids), len(found.numbers))
        for number, grid in zip(found.numbers, found.grids):
            self.assertIn(grid, grids)
            self.assertTrue(all(grid.holds(sayings[one]) for one in found.numbers if one != number))
        return found

    def test_drawn(self):
        draw = random.Random(91)
        quarrels = 0
        for many, books in ((2, 40), (3, 120), (4, 120)):
            for book in drawn_books(90 + many, books, EIGHT[:many], most_facts=4):
                grids = kept_grids(book)
                sayings = drawn_sayings(draw, book.signs, draw.randint(0, 8))
                sayings += [draw.choice(sayings) for _ in range(draw.randint(0, 4)) if sayings]
                if grids:
                    quarrels += self.check(book, sayings, grids).kind == "quarrel"
                else:
                    self.refuses(Impossible(grid_of(book)), together, book, sayings)
        self.assertGreater(quarrels, 60)

    def test_plain_books_of_many_signs(self):
        draw = random.Random(95)
        for book in drawn_plain_books(96, 80, 8):
            if grid_of(book):
                sayings = drawn_sayings(draw, book.signs, draw.randint(0, 12))
                found = together(book, sayings)
                self.assertEqual(bool(found), not Seen(book, sayings).breaks())
                self.assertIs(shows_together(book, sayings, found), True)

    def test_none(self):
        for book in (Book(["q"]), Book(["q"], [], 1, 1), Book(ABC), Book(ABC, [], 1)):
            self.assertEqual(together(book, []).kind, "together")
            self.assertTrue(together(book, ()).grid.keeps(book))

    def test_equal_ones(self):
        told = sayings_of("row a b", "row a b", "column a b", "column a b")
        self.assertEqual(together(Book(ABC), told).numbers, (1, 3))
        self.assertEqual(together(Book(ABC), told * 3).numbers, (9, 11))
        self.assertEqual(together(Book(ABC), told[:2]).kind, "together")

    def test_one_that_is_never(self):
        book = Book(ABC, sayings_of("row a b"))
        found = together(book, sayings_of("row b c", "column a b", "row a b"))
        self.assertEqual((found.numbers, len(found.grids)), ((1,), 1))
        self.assertTrue(found.grids[0].keeps(book))

    def test_the_way_of_the_document(self):
        told = sayings_of("row a b", "column a b", "row a b", "not row a b")
        self.assertEqual(together(Book(ABC), told).numbers, (2, 3))
        self.assertEqual(together(Book(ABC), told[::-1]).numbers, (2, 3))
        self.assertEqual(together(Book(ABC), told[:3]).numbers, (1, 2))

    def test_all_open_yet_they_quarrel(self):
        book = Book(ABC, [fact_of("row a b", "row a c")])
        found = self.check(book, sayings_of("not row a b", "not row a c"), kept_grids(book))
        self.assertEqual(found.numbers, (0, 1))

    def test_six_signs(self):
        draw = random.Random(97)
        grids = all_grids(EIGHT[:6])
        for book in drawn_books(98, 10, EIGHT[:6], most_facts=10, bounds=(None, 2, 3)):
            kept = [grid for grid in grids if grid.keeps(book)]
            if kept and not book.is_plain:
                self.check(book, drawn_sayings(draw, book.signs, 12), kept)


class ShowsTogether(Case):
    def setUp(self):
        self.told = sayings_of("row a b", "row b c", "column a c", "row a b")
        self.grids = [Grid(ABC, rows, columns)
                      for rows, columns in (((0, 1, 1), (0, 1, 0)), ((0, 0, 1), (0, 1, 0)), ((0, 0, 0), (0, 1, 2)))]
        self.tree = [["place", "a", "c"]]

    def shows(self, *parts):
        return shows_together(Book(ABC), self.told, Quarrel(*parts))

    def test_together(self):
        for book in drawn_books(101, 30, ABC):
            for grid in all_grids(ABC):
                is_right = grid.keeps(book) and grid.holds(self.told[0]) and grid.holds(self.told[2])
                self.assertIs(shows_together(book, self.told[::2], Together(grid)), is_right)
                self.assertIs(shows_together(book, [], Together(grid)), grid.keeps(book))
        for bad in (None, SAME, "a b c : 0 0 1 : 0 1 0", [self.grids[1]], Kept(self.grids[1]),
                    Grid(ABCD, (0, 0, 1, 2), (0, 1, 0, 2)), Grid(["a", "b"], (0, 0), (0, 1)), Grid(["a", "b", "d"], (0, 0, 1), (0, 1, 0))):
            self.assertIs(shows_together(Book(ABC), self.told[:1], Together(bad)), False)

    def test_right_quarrels(self):
        self.assertIs(self.shows([0, 1, 2], self.tree, self.grids), True)
        self.assertIs(self.shows((1, 2, 3), (("place", "a", "c"),), (*self.grids[1:], self.grids[0])), True)
        self.assertIs(shows_together(value=Quarrel([0, 1, 2], self.tree, tuple(self.grids)), sayings=tuple(self.told), book=Book(ABC)), True)

    def test_bent_numbers(self):
        for numbers in ([0, 2, 1], [1, 0, 2], [0, 1], [1, 2], [0, 1, 2, 3], [0, 1, 4], [-4, 1, 2], [0, 1, 1], [0, 0, 1, 2],
                        [False, True, 2], [0, True, 2], [0, 1, 2.0], [0, 1, "2"], [0, 1, None], [], None, SAME, "012",
                        [0, 1, SAME], [[0, 1, 2]], {0: 1, 1: 1, 2: 1}, 3, [0, 1, 10 ** 70], [-1, 1, 2]):
            self.assertIs(self.shows(numbers, self.tree, self.grids), False, numbers)
            self.assertIs(self.shows(numbers, self.tree, self.grids[:2]), False, numbers)
        self.assertIs(self.shows([0, 1, 2, 3], self.tree, [*self.grids, self.grids[0]]), False)
        for order in itertools.permutations(range(3)):
            self.assertIs(self.shows(order, self.tree, [self.grids[at] for at in order]), order == (0, 1, 2))

    def test_bent_trees(self):
        for tree in (None, [], self.tree[0], [self.tree], [["place", "a", "b"]], SAME, "tree", [["apart", "row", "a", "b"]],
                     [["row", "a", "b", 1, 2], ["place", "a", "c"]]):
            self.assertIs(self.shows([0, 1, 2], tree, self.grids), False)
        forked = [["row", "a", "b", 1, 2], ["place", "a", "c"], ["apart", "row", "a", "b"]]
        self.assertIs(self.shows([0, 1, 2], forked, self.grids), True)

    def test_bent_grids(self):
        for order in itertools.permutations(range(3)):
            grids = [self.grids[at] for at in order]
            self.assertIs(self.shows([0, 1, 2], self.tree, grids), order == (0, 1, 2))
        for grids in (self.grids[:2], [*self.grids, self.grids[2]], [], None, SAME, "abc", self.grids[0], [None] * 3,
                      [SAME] * 3, [*self.grids[:2], None], [*self.grids[:2], Grid(["a", "b"], (0, 0), (0, 1))],
                      [*self.grids[:2], Grid(ABCD, (0, 0, 0, 0), (0, 1, 2, 3))], [*self.grids[:2], Kept(self.grids[2])],
                      [*self.grids[:2], [self.grids[2]]], {0: 1, 1: 2, 2: 3}):
            self.assertIs(self.shows([0, 1, 2], self.tree, grids), False)

    def test_each_grid(self):
        told = self.told[:3]
        for at, grid in itertools.product(range(3), all_grids(ABC)):
            grids = [*self.grids[:at], grid, *self.grids[at + 1:]]
            is_right = all(grid.holds(saying) for saying in told[:at] + told[at + 1:])
            self.assertIs(self.shows([0, 1, 2], self.tree, grids), is_right)

    def test_grids_that_do_not_keep_the_book(self):
        book = Book(ABC, [], 2, 2)
        self.assertIs(shows_together(book, self.told, Quarrel([0, 1, 2], self.tree, self.grids)), False)
        book = Book(ABC, [], 3, 3)
        self.assertIs(shows_together(book, self.told, Quarrel([0, 1, 2], self.tree, self.grids)), True)

    def test_one_to_spare(self):
        split = Grid(["a", "b"], [0, 1], [0, 1])
        told = sayings_of("not row a b", "row a b", "not column a b")
        book = Book(["a", "b"])
        tree = [["apart", "row", "a", "b"]]
        column = Grid(["a", "b"], [0, 0], [0, 1])
        self.assertIs(shows_together(book, told, Quarrel([0, 1], tree, [column, split])), True)
        self.assertIs(shows_together(book, told, Quarrel([0, 1, 2], tree, [column, split, split])), False)
        self.assertIs(shows_together(book, told, Quarrel([0, 1, 2], tree, [column, split, column])), False)

    def test_one_that_is_never(self):
        book, told = Book(ABC, sayings_of("row a b")), sayings_of("column b c", "column a b")
        tree, grid = [["place", "a", "b"]], Grid(ABC, (0, 0, 0), (0, 1, 2))
        self.assertIs(shows_together(book, told, Quarrel([1], tree, [grid])), True)
        self.assertIs(shows_together(book, told, Quarrel([0], tree, [grid])), False)
        self.assertIs(shows_together(book, told, Quarrel([1, 1], tree, [grid, grid])), False)
        self.assertIs(shows_together(book, told, Quarrel([1], tree, [Grid(ABC, (0, 1, 0), (0, 0, 1))])), False)
        self.assertIs(shows_together(book, told, Quarrel([], tree, [])), False)

    def test_of_a_book_that_clashes(self):
        book = Book(["a", "b"], sayings_of("not row a b"), 1)
        self.assertIs(shows_together(book, [], Quarrel([], [["many", "row", ["a", "b"]]], [])), True)
        self.assertIs(shows_together(book, sayings_of("column a b"), Quarrel([0], [["many", "row", ["a", "b"]]], [None])), False)

    def test_other_values(self):
        for value in (None, True, SAME, self.grids, Paper("together", self.grids[0]), self.grids[0], Kept(self.grids[0]),
                      Denial("quarrel", (0, 1, 2), self.tree, self.grids), ([0, 1, 2], self.tree, self.grids),
                      NoGrid(self.tree), "quarrel", Quarrel(self.grids, self.tree, [0, 1, 2])):
            self.assertIs(shows_together(Book(ABC), self.told, value), False)
            self.assertIs(shows_together(Book(ABC), [], value), False)

    def test_papers(self):
        quarrel = Quarrel(grids=[3], tree=[2], numbers=[1])
        self.assertEqual((quarrel.kind, quarrel.parts), ("quarrel", ((1,), (2,), (3,))))
        self.assertEqual((quarrel.numbers, quarrel.tree, quarrel.grids), quarrel.parts)
        self.assertEqual((Together(grid=[1]).grid, bool(Together(None)), bool(quarrel)), ((1,), True, False))


class TogetherErrors(Case):
    def test_order(self):
        s = Saying("row", "a", "b")
        many = [s] * 13
        right = {"book": Book(ABC, [], 3), "sayings": [s]}
        faults = [
            (BadBook("book"), {"book": "a b c : - - : -"}), (BadSaying("sayings"), {"sayings": [Saying("row", "a", "x"), 1]}),
            (NoSign("i"), {"sayings": sayings_of("row a b", "row c i", "row j k")}),
            (NoSign("k"), {"sayings": [*many, Saying("row", "k", "l")]})]
        large = (TooMany("signs", 6), {"book": LARGE[0]})
        crowd = (TooMany("sayings", 12), {"sayings": many})
        self.refuses_in_order(together, right, [*faults, large, crowd])
        self.refuses_in_order(together, right, [*faults, crowd, (Impossible(grid_of(TORN[0])), {"book": TORN[0]})])
        self.refuses_in_order(shows_together, {**right, "value": None}, [*faults, large, crowd])

    def test_twelve_and_thirteen(self):
        s = Saying("row", "a", "b")
        for book in (Book(ABC), Book(ABC, [], 2), Book(EIGHT)):
            self.assertEqual(together(book, [s] * 12).kind, "together")
            self.refuses(TooMany("sayings", 12), together, book, [s] * 13)
            self.refuses(TooMany("sayings", 12), together, book, (s, s.contrary()) * 7)
            self.refuses(TooMany("sayings", 12), shows_together, book, [s] * 13, None)
            self.assertIs(shows_together(book, [s] * 12, together(book, [s] * 12)), True)
        self.assertEqual(together(Book(ABC), [s] * 11 + [s.contrary()]).numbers, (10, 11))

    def test_too_many_signs(self):
        torn = Book(EIGHT[:7], sayings_of("row a b", "column a b"), 7)
        for book in [*LARGE, torn]:
            for sayings in ([], [Saying("row", "a", "b")] * 13):
                self.refuses(TooMany("signs", 6), together, book, sayings)
                self.refuses(TooMany("signs", 6), shows_together, book, sayings, None)

    def test_impossible(self):
        for book in TORN:
            for sayings in ([], sayings_of("row a b"), sayings_of("row a b", "not row a b")):
                self.refuses(Impossible(grid_of(book)), together, book, sayings)
                self.assertIs(shows_together(book, sayings, None), False)

    def test_each(self):
        s = Saying("row", "a", "b")
        shown = Together(Grid(ABC, (0, 0, 0), (0, 1, 2)))
        for call, more in ((together, ()), (shows_together, (None,)), (shows_together, (shown,))):
            for value in (None, 0, "a : - - : -", ["a"], s):
                self.refuses(BadBook("book"), call, value, [], *more)
            for value in NO_LISTS + [[None], [s, "row a b"], s, [fact_of("row a b")], [[s]]]:
                self.refuses(BadSaying("sayings"), call, Book(ABC), value, *more)
            self.refuses(NoSign("d"), call, Book(ABC), [s, Saying("row", "e", "d")], *more)
            self.refuses(NoSign("x"), call, Book(ABC), [Saying("row", "a", "x"), Saying("row", "d", "e")], *more)


if __name__ == "__main__":
    unittest.main()
