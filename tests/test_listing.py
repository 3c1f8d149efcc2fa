"""Grids by their numbers, shapes and parts: beside a plain listing of all grids."""

import itertools
import random
import unittest

from mutesigns.books import Book
from mutesigns.counts import many_by, many_on
from mutesigns.errors import BadBook, BadGrid, BadNumber, Misfit, NoSign, TooMany, Twice
from mutesigns.grids import Grid
from mutesigns.listing import grid_at, grids, many_grids, number_of, part_of
from mutesigns.sayings import Saying
from oracles import drawn_books, drawn_sayings
from support import NO_INTEGERS, SAME, Case
from test_books import EIGHT
from test_facts import fact_of, sayings_of
from test_grids import all_grids

ABC = ["a", "b", "c"]
MANY = [1, 3, 15, 113, 1153, 15125]
SEVEN = EIGHT[:7]
NO_BOOKS = [None, 0, "a : - - : -", ["a"], SAME, Saying("row", "a", "b")]
NO_GRIDS = [None, 0, "a : 0 : 0", ["a"], SAME, Book(ABC), Grid]


def order(grid):
    return (grid.rows, grid.columns)


def kept_in_order(book):
    return tuple(sorted((grid for grid in all_grids(book.signs) if grid.keeps(book)), key=order))


def shape(grid):
    return (len(set(grid.rows)), len(set(grid.columns)))


def is_part(grid, whole):
    """Whether the grid is the part of the whole one on its signs, told plainly."""
    return all((grid.rows[i] == grid.rows[j]) == (whole.place(one)[0] == whole.place(other)[0])
               and (grid.columns[i] == grid.columns[j]) == (whole.place(one)[1] == whole.place(other)[1])
               for (i, one), (j, other) in itertools.combinations(enumerate(grid.signs), 2))


class Listing(Case):
    def check(self, book):
        kept = kept_in_order(book)
        self.assertEqual(many_grids(book=book), len(kept))
        if len(kept) <= 400:
            self.assertEqual(grids(book=book), kept)
        else:
            self.refuses(TooMany("grids", 400), grids, book)
        for number in {0, 1, len(kept) // 2, len(kept) - 1}:
            if 0 <= number < len(kept):
                self.assertEqual(grid_at(book, number), kept[number])
                self.assertEqual(grid_at(number=number, book=book), kept[number])
                self.assertEqual(number_of(book, kept[number]), number)
        for number in (-1, len(kept), len(kept) + 1, 10 ** 70, *NO_INTEGERS):
            self.refuses(BadNumber("number"), grid_at, book, number)
        counted = {}
        for grid in kept:
            counted[shape(grid)] = counted.get(shape(grid), 0) + 1
        self.assertEqual(many_by(book=book), tuple(sorted((*told, many) for told, many in counted.items())))
        return kept

    def test_drawn(self):
        for many, count in ((2, 30), (3, 60), (4, 60)):
            for book in drawn_books(40 + many, count, EIGHT[:many], most_facts=5):
                kept = self.check(book)
                for grid in all_grids(book.signs):
                    self.assertEqual(number_of(book, grid), kept.index(grid) if grid in kept else None)

    def test_no_facts(self):
        for many, count in enumerate(MANY, start=1):
            book = Book(EIGHT[:many])
            self.assertEqual(many_grids(book), count)
            self.assertEqual(sum(told[2] for told in many_by(book)), count)
            if many <= 4:
                self.check(book)
            last = Grid(EIGHT[:many], list(range(many)), list(range(many)))
            self.assertEqual((number_of(book, last), grid_at(book, count - 1)), (count - 1, last))
            self.assertEqual(grid_at(book, 0), Grid(EIGHT[:many], [0] * many, list(range(many))))
            self.refuses(BadNumber("number"), grid_at, book, count)

    def test_one_sign(self):
        for bounds in itertools.product((None, 1, 8), repeat=2):
            self.assertEqual(grids(Book(["q"], [], *bounds)), (Grid(["q"], [0], [0]),))
            self.assertEqual(many_by(Book(["q"], [], *bounds)), ((1, 1, 1),))

    def test_five_signs(self):
        for book in [Book(EIGHT[:5]), *drawn_books(45, 6, EIGHT[:5], most_facts=3)]:
            self.check(book)

    def test_six_signs(self):
        free = [(told[0], told[1], told[2]) for told in many_by(Book(EIGHT[:6]))]
        for rows, columns in itertools.product((None, 1, 2, 3, 5), (None, 2, 6)):
            book = Book(EIGHT[:6], [], rows, columns)
            within = [told for told in free if told[0] <= (rows or 6) and told[1] <= (columns or 6)]
            self.assertEqual(list(many_by(book)), within)
            self.assertEqual(many_grids(book), sum(told[2] for told in within))
        self.check(Book(EIGHT[:6], [*sayings_of("row a b", "column a c", "not row d e"), fact_of("row e f", "row a f")], 3, 4))

    def test_how_many_ways_for_one_sign_more(self):
        for many in range(1, 6):
            ways = {}
            for rows, columns, count in many_by(Book(EIGHT[:many])):
                for told, more in (((rows, columns), rows * columns - many), ((rows, columns + 1), rows),
                                   ((rows + 1, columns), columns), ((rows + 1, columns + 1), 1)):
                    ways[told] = ways.get(told, 0) + count * more
            self.assertEqual({(rows, columns): count for rows, columns, count in many_by(Book(EIGHT[:many + 1]))},
                             {told: count for told, count in ways.items() if count})

    def test_four_hundred(self):
        seen = set()
        for size in range(2, 7):
            for facts in itertools.combinations(sayings_of("not row a b", "row a c", "column c d", "not row a d", "row d e"), 2):
                for rows in (2, 3, 4, None):
                    book = Book(EIGHT[:size] if size > 4 else EIGHT[:5], facts, rows)
                    many = many_grids(book)
                    seen.add(many > 400)
                    if many > 400:
                        self.refuses(TooMany("grids", 400), grids, book)
                    else:
                        self.assertEqual(len(grids(book)), many)
        self.assertEqual(seen, {True, False})

    def test_just_four_hundred_and_one_more(self):
        book = Book.read("a b c d e : 3 3 : column a c or not column c d or not row a c or row d e")
        self.assertEqual((many_grids(book), len(self.check(book)), len(grids(book))), (400, 400, 400))
        book = Book.read("a b c d e : - 3 : column a c or row a d or row b d or row b e / column a e or not row d e")
        self.assertEqual((many_grids(book), len(self.check(book))), (401, 401))
        self.refuses(TooMany("grids", 400), grids, book)

    def test_none(self):
        for book in (Book(ABC, [], 1, 2), Book(ABC, sayings_of("row a b", "column a b"))):
            self.assertEqual((grids(book), many_grids(book), many_by(book)), ((), 0, ()))
            self.refuses(BadNumber("number"), grid_at, book, 0)
            self.assertIsNone(number_of(book, Grid(ABC, (0, 0, 0), (0, 1, 2))))

    def test_two_books_put_together(self):
        draw = random.Random(47)
        for _ in range(12):
            one = Book(ABC[:2], drawn_sayings(draw, ABC[:2], draw.randint(0, 1)))
            other = Book(["x", "y", "z"][:draw.randint(2, 3)], drawn_sayings(draw, ["x", "y"], draw.randint(0, 1)))
            both = one.with_book(other)
            kept = kept_in_order(both)
            self.assertEqual(many_grids(both), len(kept))
            for grid in all_grids(both.signs):
                parts = part_of(grid, one.signs), part_of(grid, other.signs)
                self.assertIs(grid in kept, parts[0].keeps(one) and parts[1].keeps(other))


class Parts(Case):
    def test_part_of(self):
        draw = random.Random(48)
        for grid in draw.sample(all_grids(EIGHT[:4]), 40):
            for size in (1, 2, 3, 4):
                for signs in itertools.permutations(grid.signs, size):
                    part = part_of(signs=list(signs), grid=grid)
                    self.assertEqual(part.signs, tuple(sorted(signs)))
                    self.assertTrue(is_part(part, grid))
        grid = Grid(EIGHT, list(range(8)), [0] * 8)
        self.assertEqual(part_of(grid, ("h", "a")), Grid(["a", "h"], [0, 1], [0, 0]))
        self.assertEqual(part_of(grid, EIGHT[::-1]), grid)

    def test_many_on(self):
        draw = random.Random(49)
        for many, count in ((2, 10), (3, 25), (4, 25)):
            for book in drawn_books(50 + many, count, EIGHT[:many], most_facts=4):
                kept = kept_in_order(book)
                for size in range(1, many + 1):
                    signs = sorted(draw.sample(book.signs, size))
                    counts = [many_on(book, grid) for grid in all_grids(signs)]
                    self.assertEqual(counts, [sum(is_part(grid, whole) for whole in kept) for grid in all_grids(signs)])
                    self.assertEqual(sum(counts), len(kept))
        whole = Grid(ABC, (0, 1, 1), (0, 0, 1))
        self.assertEqual((many_on(grid=whole, book=Book(ABC)), many_on(Book(ABC, [], 1), whole)), (1, 0))

    def test_six_signs(self):
        book = Book(EIGHT[:6])
        self.assertEqual(many_on(book, Grid(["d"], [0], [0])), 15125)
        self.assertEqual([many_on(book, grid) for grid in all_grids(["b", "e"])].count(0), 0)
        self.assertEqual(sum(many_on(book, grid) for grid in all_grids(["b", "e", "f"])), 15125)


class ListingErrors(Case):
    def test_order(self):
        grid, seven = Grid(ABC, (0, 1, 1), (0, 0, 1)), Book(SEVEN)
        many = (TooMany("signs", 6), {"book": seven})
        self.refuses_in_order(grid_at, {"book": Book(ABC), "number": 3},
                              [(BadBook("book"), {"book": 1}), (TooMany("signs", 6), {"book": seven}), (BadNumber("number"), {"number": True})])
        self.refuses_in_order(number_of, {"book": Book(ABC), "grid": grid},
                              [(BadBook("book"), {"book": 1}), (BadGrid("grid"), {"grid": Book(ABC)}), (Misfit("signs"), {"book": seven})])
        self.refuses_in_order(many_on, {"book": Book(EIGHT[:4]), "grid": grid},
                              [(BadBook("book"), {"book": 1}), (BadGrid("grid"), {"grid": None}),
                               (NoSign("i"), {"grid": Grid(["a", "i", "j"], (0, 1, 2), (0, 0, 0))}), many])
        self.refuses_in_order(part_of, {"grid": grid, "signs": ["a"]},
                              [(BadGrid("grid"), {"grid": 0}), (BadGrid("signs"), {"signs": []})])
        self.refuses(BadGrid("grid"), part_of, "a", ["x", "a", "a"])

    def test_too_many_signs(self):
        for book in (Book(SEVEN), Book(EIGHT), Book(SEVEN, [], 2, 2), Book(SEVEN, sayings_of("row a b", "column a b"))):
            large = Grid(book.signs, list(range(len(book.signs))), [0] * len(book.signs))
            for call, more in ((grids, ()), (many_grids, ()), (many_by, ()), (grid_at, (0,)), (grid_at, (None,)), (number_of, (large,)),
                               (many_on, (large,)), (many_on, (Grid(["a"], [0], [0]),))):
                self.refuses(TooMany("signs", 6), call, book, *more)
            self.refuses(Misfit("signs"), number_of, book, Grid(ABC, (0, 1, 2), (0, 0, 0)))
            self.refuses(NoSign("z"), many_on, book, Grid(["a", "z"], (0, 1), (0, 0)))

    def test_each(self):
        grid = Grid(ABC, (0, 1, 1), (0, 0, 1))
        for value in NO_BOOKS:
            for call, more in ((grids, ()), (many_grids, ()), (many_by, ()), (grid_at, (0,)), (number_of, (grid,)), (many_on, (grid,))):
                self.refuses(BadBook("book"), call, value, *more)
        for value in NO_GRIDS:
            self.refuses(BadGrid("grid"), number_of, Book(ABC), value)
            self.refuses(BadGrid("grid"), many_on, Book(ABC), value)
            self.refuses(BadGrid("grid"), part_of, value, ["a"])
        for signs in (["a", "b"], ["a", "b", "c", "d"], ["a", "b", "d"]):
            told = Grid(signs, list(range(len(signs))), [0] * len(signs))
            self.refuses(Misfit("signs"), number_of, Book(ABC), told)
        self.refuses(NoSign("aa"), many_on, Book(ABC), Grid(["a", "aa", "b", "z"], (0, 1, 2, 3), (0, 0, 0, 0)))

    def test_parts(self):
        grid = Grid(ABC, (0, 1, 1), (0, 0, 1))
        for value in (None, 0, "ab", {"a": 1}, {"a"}, [], (), iter(["a"]), SAME):
            self.refuses(BadGrid("signs"), part_of, grid, value)
        for value in (None, 0, True, "d", "", ["a"], ("a",), SAME, "ab", 1.5):
            self.refuses(NoSign(value), part_of, grid, ["a", value])
            self.refuses(NoSign(value), part_of, grid, ("a", "a", value, "x"))
            self.refuses(NoSign(value), part_of, grid, [value])
        self.refuses(Twice("b"), part_of, grid, ["a", "b", "b", "a"])


if __name__ == "__main__":
    unittest.main()
