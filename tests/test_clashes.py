"""Lots that clash, and lots that are strikings: beside a plain going through all lots and a plain listing of all grids."""

import itertools
import random
import unittest

from mutesigns.books import Book
from mutesigns.check_slips import shows_clash, shows_slips
from mutesigns.clashes import Clash, all_clashes, clash
from mutesigns.errors import BadBook, Impossible, TooMany
from mutesigns.facts import Fact
from mutesigns.grids import Grid
from mutesigns.papers import Denial, Paper
from mutesigns.possible import Kept, NoGrid, grid_of
from mutesigns.sayings import Saying
from mutesigns.slips import Slips, all_slips, greatest_lots, slips
from oracles import drawn_book, drawn_sayings, is_right_tree
from support import SAME, Case
from test_bearing import ABC, ABCD, CROWDED, bare, book_of, drawn_lot_books, least, lots_in_order, refused_lots
from test_books import EIGHT
from test_facts import fact_of, sayings_of
from test_grids import all_grids
from test_plain import drawn_plain_books

FIVE_CALLS = (clash, all_clashes, slips, all_slips, greatest_lots)
FIRST, LAST = Saying("row", "a", "b"), Saying("column", "c", "d")
TORN = Book(ABCD, [FIRST, FIRST.contrary(), LAST, LAST.contrary(), Fact([FIRST, LAST])])


def greatest(lots):
    """Those of the lots that are no part of another one."""
    return tuple(lot for lot in lots if not any(set(lot) < set(other) for other in lots))


def left_by(lot, many):
    return tuple(number for number in range(many) if number not in lot)


def drawn_torn_books(seed, count, many, most_facts):
    """Books that no grid keeps, the bounds of which some grid does."""
    draw = random.Random(seed)
    found = []
    while len(found) < count:
        book = drawn_book(draw, EIGHT[:many], most_facts, (None, None, 2, 3))
        if grid_of(bare(book)) and not grid_of(book):
            found.append(book)
    return found


class Clashes(Case):
    def check(self, book):
        refused = refused_lots(book)
        found = clash(book)
        self.assertEqual(found, clash(book=book))
        self.assertIs(shows_clash(book, found), True)
        self.assertEqual(all_clashes(book), least(refused))
        self.check_slips(book, [lot for lot in lots_in_order(len(book)) if lot not in refused])
        if not refused:
            self.assertEqual((type(found), found.kind, found.grid.keeps(book)), (Kept, "kept", True))
            return
        self.assertEqual((type(found), found.kind, bool(found)), (Clash, "clash", False))
        self.assertEqual(found.numbers, refused[0])
        self.assertTrue(is_right_tree(book_of(book, found.numbers), [], found.tree))
        self.assertEqual(len(found.grids), len(found.numbers))
        for number, grid in zip(found.numbers, found.grids):
            self.assertTrue(grid.keeps(book_of(book, [one for one in found.numbers if one != number])))

    def check_slips(self, book, kept):
        many = len(book)
        strikings = [lot for lot in lots_in_order(many) if left_by(lot, many) in kept]
        found = slips(book)
        self.assertEqual(found, slips(book=book))
        self.assertIs(shows_slips(book, found), True)
        self.assertEqual((type(found), found.kind, bool(found)), (Slips, "slips", True))
        self.assertEqual(found.numbers, strikings[0])
        self.assertTrue(found.grid.keeps(book_of(book, left_by(found.numbers, many))))
        for lot, tree in found.clashes:
            self.assertTrue(is_right_tree(book_of(book, lot), [], tree))
        if found.numbers == ():
            self.assertEqual(found.clashes, ())
        else:
            for lot in itertools.combinations(range(many), len(found.numbers) - 1):
                self.assertTrue(any(not set(lot) & set(told) for told, tree in found.clashes))
        self.assertEqual(all_slips(book), least(strikings))
        self.assertEqual(greatest_lots(book), greatest(kept))

    def test_drawn(self):
        for many, count in ((2, 30), (3, 60), (4, 60)):
            for book in drawn_lot_books(many, count, many, 5) + drawn_torn_books(many + 10, count, many, 5):
                self.check(book)

    def test_drawn_single_ones(self):
        draw = random.Random(21)
        sizes = []
        for _ in range(120):
            book = Book(ABC, [Fact([one]) for one in draw.choices(drawn_sayings(draw, ABC, 7), k=5)], draw.choice((None, 2)))
            self.check(book)
            sizes.append(len(slips(book).numbers))
        self.assertTrue(all(sizes.count(size) > 5 for size in (0, 1, 2)), sizes)

    def test_eight_facts(self):
        draw = random.Random(22)
        for book in drawn_torn_books(23, 12, 3, 8) + drawn_torn_books(24, 6, 4, 8):
            self.check(book)
        for _ in range(8):
            self.check(Book(ABC, [Fact([one]) for one in draw.choices(drawn_sayings(draw, ABC, 8), k=8)]))

    def test_of_the_document(self):
        self.check(TORN)
        self.assertEqual(all_clashes(TORN), ((0, 1), (2, 3), (1, 3, 4)))
        self.assertEqual((clash(TORN).tree, slips(TORN).numbers), ((("apart", "row", "a", "b"),), (0, 3)))

    def test_a_number_of_each_in_each(self):
        for book in drawn_torn_books(25, 60, 4, 6):
            clashes, strikings = all_clashes(book), all_slips(book)
            for lot, other in itertools.product(clashes, strikings):
                self.assertTrue(set(lot) & set(other))
            for lot in lots_in_order(len(book)):
                self.assertEqual(any(set(one) <= set(lot) for one in strikings), all(set(lot) & set(one) for one in clashes))
                self.assertEqual(any(set(one) <= set(lot) for one in clashes), all(set(lot) & set(one) for one in strikings))

    def test_books_that_some_grid_keeps(self):
        for book in (Book(["q"]), Book(ABC), Book(ABC, [], 2, 2), Book(ABC, sayings_of("row a b", "row a b")),
                     Book(EIGHT, sayings_of("row a b") * 8), Book(ABC, [fact_of("row a b", "column a b")])):
            self.assertEqual((clash(book).kind, all_clashes(book), all_slips(book)), ("kept", (), ((),)))
            self.assertEqual((slips(book).numbers, slips(book).clashes), ((), ()))
            self.assertEqual(greatest_lots(book), (tuple(range(len(book))),))
            self.assertTrue(slips(book).grid.keeps(book))

    def test_all_facts_are_slips(self):
        book = Book(["a", "b", "c"], [fact_of("not row a b"), fact_of("not row b c"), fact_of("not row a b", "not row a c")], 1)
        self.check(book)
        self.assertEqual((slips(book).numbers, all_clashes(book)), ((0, 1, 2), ((0,), (1,), (2,))))
        self.assertEqual(greatest_lots(book), ((),))

    def test_crossed(self):
        for book in drawn_torn_books(26, 40, 3, 6):
            self.assertEqual((all_clashes(book.crossed()), all_slips(book.crossed())), (all_clashes(book), all_slips(book)))
            self.assertEqual(clash(book.crossed()).numbers, clash(book).numbers)

    def test_one_fact_more(self):
        draw = random.Random(27)
        for book in drawn_torn_books(28, 50, 3, 5):
            more = book.with_fact(Fact(drawn_sayings(draw, book.signs, draw.choice((1, 2)))))
            self.assertIn(len(slips(more).numbers) - len(slips(book).numbers), (0, 1))
            self.assertEqual(tuple(lot for lot in all_clashes(more) if len(book) not in lot), all_clashes(book))
            always = book.with_fact(fact_of("row a b", "not row a b"))
            self.assertEqual((all_clashes(always), all_slips(always)), (all_clashes(book), all_slips(book)))

    def test_lesser_bounds(self):
        for book in drawn_lot_books(29, 60, 4, 5, (None, 3, 4)):
            tighter = book.bounded(2, book.most_columns)
            if grid_of(bare(tighter)):
                for lot in all_clashes(book):
                    self.assertTrue(any(set(one) <= set(lot) for one in all_clashes(tighter)))

    def test_plain_books_of_many_signs(self):
        torn = 0
        for book in drawn_plain_books(30, 60, 8):
            if len(book) <= 8:
                self.assertIs(shows_clash(book, clash(book)), True)
                self.assertIs(shows_slips(book, slips(book)), True)
                kept = [lot for lot in lots_in_order(len(book)) if grid_of(book_of(book, lot))]
                self.assertEqual(greatest_lots(book), greatest(kept))
                torn += not grid_of(book)
        self.assertGreater(torn, 5)

    def test_six_signs(self):
        done = 0
        for book in drawn_torn_books(31, 4, 6, 8):
            kept = [lot for lot in lots_in_order(len(book)) if grid_of(book_of(book, lot))]
            self.assertEqual(greatest_lots(book), greatest(kept))
            self.assertIs(shows_clash(book, clash(book)), True)
            self.assertIs(shows_slips(book, slips(book)), True)
            done += len(book) > 5
        self.assertGreater(done, 0)


class ClashErrors(Case):
    def test_each(self):
        for value in (None, 0, "a : - - : -", ABC, SAME, FIRST):
            for call in FIVE_CALLS:
                self.refuses(BadBook("book"), call, value)
            for paper in (None, Clash(1, 2, 3), Kept(1), Slips(1, 2, 3)):
                self.refuses(BadBook("book"), shows_clash, value, paper)
                self.refuses(BadBook("book"), shows_slips, value, paper)

    def test_too_many(self):
        nine = [FIRST, FIRST.contrary()] * 4 + [FIRST]
        for call in FIVE_CALLS:
            for book in (Book(EIGHT[:7], [], 8), Book(EIGHT, nine, None, 8), Book(EIGHT[:7], nine, 1, 1),
                         Book(EIGHT, [fact_of("row a b", "row a c")] * 9)):
                self.refuses(TooMany("signs", 6), call, book)
            for book in (Book(EIGHT, nine), Book(ABC, nine, 1, 1), Book(ABC, [FIRST] * 12), Book(ABC, nine, 3)):
                self.refuses(TooMany("facts", 8), call, book)
            call(Book(EIGHT, nine[:8]))
            call(Book(EIGHT[:6], nine[:8], 5, 5))

    def test_bounds_that_clash(self):
        for book in (CROWDED, Book(ABC, [], 1, 2), Book(EIGHT[:6], [FIRST] * 8, 2, 2), Book(ABC, [FIRST, FIRST.contrary()], 2, 1)):
            for call in FIVE_CALLS:
                self.refuses(Impossible(grid_of(bare(book))), call, book)

    def test_checks_of_any_size(self):
        book = Book(EIGHT, [FIRST, FIRST.contrary()] * 6, 8, 8)
        tree, split = [["apart", "row", "a", "b"]], Grid(EIGHT, list(range(8)), [0] * 8)
        row = Grid(EIGHT, [0, 0, *range(1, 7)], [0, 1, *[2] * 6])
        self.assertIs(shows_clash(book, Clash([0, 1], tree, [split, row])), True)
        self.assertIs(shows_clash(book, Clash([3, 10], tree, [row, split])), True)
        self.assertIs(shows_clash(book, Clash([0, 1], tree, [row, split])), False)
        odd = list(range(1, 12, 2))
        pairs = [(sorted([at, other]), tree) for at in range(0, 12, 2) for other in odd]
        self.assertIs(shows_slips(book, Slips(odd, row, pairs)), True)
        six = [([at, at + 1], tree) for at in range(0, 12, 2)]
        self.assertIs(shows_slips(book, Slips(odd, row, six)), True)
        self.assertIs(shows_slips(book, Slips(odd, row, six[:-1])), False)
        self.assertIs(shows_slips(book, Slips(odd, row, six[:-1] * 200 + pairs)), True)
        self.assertIs(shows_slips(book, Slips(odd, split, pairs)), False)
        self.assertIs(shows_clash(book, Kept(split)), False)
        self.assertIs(shows_clash(book.without(odd), Kept(row)), True)


class ShowsClash(Case):
    def setUp(self):
        self.book = TORN
        self.tree = [["apart", "row", "a", "b"]]
        self.row = Grid(ABCD, (0, 0, 1, 2), (0, 1, 0, 0))
        self.split = Grid(ABCD, (0, 1, 2, 3), (0, 0, 0, 0))

    def shows(self, *parts):
        return shows_clash(self.book, Clash(*parts))

    def test_right(self):
        self.assertIs(self.shows([0, 1], self.tree, [self.split, self.row]), True)
        self.assertIs(self.shows((0, 1), tuple(self.tree), (self.split, self.row)), True)
        self.assertIs(self.shows([2, 3], [["apart", "column", "c", "d"]], [self.split, self.row.crossed()]), False)
        self.assertIs(self.shows([2, 3], [["apart", "column", "c", "d"]], [Grid(ABCD, (0, 0, 0, 0), (0, 1, 2, 3)), self.split]), True)
        for paper in (clash(TORN), *[Clash(lot, clash(book_of(TORN, lot)).tree, clash(book_of(TORN, lot)).grids)
                                     for lot in all_clashes(TORN)]):
            self.assertIs(shows_clash(value=paper, book=TORN), True)

    def test_one_to_spare(self):
        for lot in lots_in_order(5):
            found = clash(book_of(TORN, lot))
            if not found:
                grids = [self.split if number == 0 else self.row for number in lot]
                self.assertIs(self.shows(lot, grid_of(book_of(TORN, lot)).tree, grids), lot == (0, 1))

    def test_each_grid(self):
        for at, grid in itertools.product(range(2), all_grids(ABCD)):
            grids = [self.split, self.row]
            grids[at] = grid
            self.assertIs(self.shows([0, 1], self.tree, grids), grid.holds(FIRST) == (at == 1))

    def test_bent(self):
        grids = [self.split, self.row]
        for numbers in ([1, 0], [0], [1], [], [0, 1, 2], [0, 2], [False, True], [0, True], [0, 1.0], [0, "1"], None, SAME, "01", 1,
                        [0, 5], [-5, 1], [-1, 0], [0, 1, 1], [0, SAME], {0: 1, 1: 1}, [[0, 1]]):
            self.assertIs(self.shows(numbers, self.tree, grids), False, numbers)
        for tree in (None, [], self.tree[0], [self.tree], [["place", "a", "b"]], [["apart", "column", "c", "d"]], SAME, [["fact", 0]]):
            self.assertIs(self.shows([0, 1], tree, grids), False)
        for bad in (grids[::-1], grids[:1], [*grids, self.row], [], None, SAME, "ab", self.row, [None, self.row], [SAME, SAME],
                    [self.split, Grid(ABC, (0, 0, 1), (0, 1, 1))], [self.split, [self.row]], [self.split, Kept(self.row)],
                    [self.split, Grid(["a", "b", "c", "e"], self.row.rows, self.row.columns)], {0: 1, 1: 2}):
            self.assertIs(self.shows([0, 1], self.tree, bad), False)

    def test_facts_counted_anew(self):
        book = Book(ABC, [*sayings_of("row b c", "row a c"), fact_of("not row a c", "not row b c")])
        grids = [Grid(ABC, (0, 1, 0), (0, 0, 1)), Grid(ABC, (0, 1, 1), (0, 0, 1)), Grid(ABC, (0, 0, 0), (0, 1, 2))]
        self.assertIs(shows_clash(book, Clash([0, 1, 2], [["fact", 2]], grids)), True)
        more = Book(ABC, [Saying("column", "a", "b", False), *book.facts])
        self.assertIs(shows_clash(more, Clash([1, 2, 3], [["fact", 2]], grids)), True)
        grids = [Grid(ABC, (0, 1, 0), (0, 1, 1)), Grid(ABC, (0, 1, 1), (0, 1, 2)), Grid(ABC, (0, 0, 0), (0, 1, 2))]
        self.assertIs(shows_clash(more, Clash([1, 2, 3], [["fact", 2]], grids)), True)
        self.assertIs(shows_clash(more, Clash([1, 2, 3], [["fact", 3]], grids)), False)
        self.assertIs(shows_clash(more, Clash([0, 1, 2, 3], [["fact", 3]], [grids[0], *grids])), False)

    def test_bounds(self):
        crowd = grid_of(bare(CROWDED)).tree
        self.assertIs(shows_clash(CROWDED, Clash([], crowd, [])), True)
        self.assertIs(shows_clash(CROWDED, Clash([0], crowd, [Grid(ABC, (0, 0, 0), (0, 1, 2))])), False)
        self.assertIs(shows_clash(CROWDED.bounded(1, 3), Clash([], crowd, [])), False)
        book = Book(["a", "b"], [Saying("row", "a", "b", False)], 1)
        one_row, two = Grid(["a", "b"], (0, 0), (0, 1)), Grid(["a", "b"], (0, 1), (0, 1))
        for grid, is_right in ((one_row, True), (two, False)):
            self.assertIs(shows_clash(book, Clash([0], [["many", "row", ["a", "b"]]], [grid])), is_right)

    def test_kept(self):
        for grid in all_grids(ABC):
            for book in (Book(ABC, sayings_of("row a b"), 2), Book(ABC, [fact_of("row a b", "column b c")], None, 2)):
                self.assertIs(shows_clash(book, Kept(grid)), grid.keeps(book))
        for bad in (None, SAME, [self.row], Grid(ABC, (0, 0, 1), (0, 1, 1)), Kept(self.row)):
            self.assertIs(shows_clash(Book(ABCD), Kept(bad)), False)

    def test_other_values(self):
        parts = ([0, 1], self.tree, [self.split, self.row])
        for value in (None, True, SAME, parts, Paper("clash", *parts), Denial("clash", *parts), "clash", NoGrid(self.tree),
                      self.row, Slips(*parts), Clash(parts[2], self.tree, [0, 1])):
            self.assertIs(shows_clash(self.book, value), False)

    def test_papers(self):
        paper = Clash(grids=[3], tree=[2], numbers=[1])
        self.assertEqual((paper.numbers, paper.tree, paper.grids, paper.kind), ((1,), (2,), (3,), "clash"))
        paper = Slips(clashes=[3], grid=[2], numbers=[1])
        self.assertEqual((paper.numbers, paper.grid, paper.clashes, paper.kind), ((1,), (2,), (3,), "slips"))


class ShowsSlips(Case):
    def setUp(self):
        self.row, self.column = [["apart", "row", "a", "b"]], [["apart", "column", "c", "d"]]
        self.pairs = [((0, 1), self.row), ((2, 3), self.column)]
        self.grid = Grid(ABCD, (0, 1, 2, 3), (0, 1, 2, 2))
        self.both = slips(TORN).clashes

    def shows(self, *parts):
        return shows_slips(TORN, Slips(*parts))

    def test_each_lot(self):
        third = ((1, 3, 4), clash(book_of(TORN, (1, 3, 4))).tree)
        for lot in lots_in_order(5):
            for grid in all_grids(ABCD)[::3]:
                is_right = lot in ((0, 3), (1, 2), (1, 3)) and grid.keeps(book_of(TORN, left_by(lot, 5)))
                self.assertIs(self.shows(lot, grid, [*self.pairs, third]), is_right)

    def test_pairs(self):
        numbers, grid = [0, 3], slips(TORN).grid
        spare = ((0, 1, 2, 3, 4), self.row)
        for pairs, is_right in ((self.pairs, True), (self.pairs[::-1], True), (self.pairs[:1], False), (self.pairs[1:], False),
                                ([], False), ([*self.pairs, spare], True), ([spare, self.pairs[0]], False),
                                ([*self.pairs, *self.pairs], True), ([((0, 1, 4), self.row), ((2, 3), self.column)], True),
                                ([((0, 1, 2), self.row), ((2, 3), self.column)], False)):
            self.assertIs(self.shows(numbers, grid, pairs), is_right, pairs)
            self.assertIs(self.shows(numbers, grid, [list(pair) for pair in pairs]), is_right)

    def test_wrong_pairs(self):
        numbers, grid = [0, 3], slips(TORN).grid
        for pair in (None, SAME, [], [(0, 1)], [(0, 1), self.row, 1], "ab", ((1, 0), self.row), ((0, True), self.row),
                     ((False, 1), self.row), ((0, 5), self.row), ((-5, 1), self.row), ((0, 1), self.column), ((0, 2), self.row),
                     ((0, 1), []), ((0, 1), None), ((0, 1, 1), self.row), (None, self.row), (SAME, self.row), (0, self.row),
                     ("01", self.row), (self.row, (0, 1)), ((), self.row), {0: 1, 1: 2}, ((0, 1.0), self.row), ((0, 1), SAME)):
            self.assertIs(self.shows(numbers, grid, [*self.pairs, pair]), False, pair)
        for pairs in (None, SAME, "ab", 0, self.pairs[0], dict(enumerate(self.pairs))):
            self.assertIs(self.shows(numbers, grid, pairs), False)

    def test_facts_counted_anew(self):
        book = Book(ABC, [Saying("row", "a", "b", False), *sayings_of("row b c", "row a c"), fact_of("not row a c", "not row b c")])
        grid = Grid(ABC, (0, 1, 1), (0, 0, 1))
        for number, is_right in ((2, True), (3, False)):
            pairs = [((1, 2, 3), [["fact", number]]), ((0, 1, 2), [["apart", "row", "a", "b"]])]
            self.assertIs(shows_slips(book, Slips([2], grid, pairs)), is_right)

    def test_bent(self):
        grid, pairs = slips(TORN).grid, self.pairs
        for numbers in ([3, 0], [0], [], [0, 3, 4], [0, 1], [0, 3, 3], [False, 3], [0, 3.0], [0, "3"], None, SAME, 3, "03", [0, 8],
                        [-5, 3], [0, SAME], [[0, 3]], {0: 1, 3: 1}):
            self.assertIs(self.shows(numbers, grid, pairs), False, numbers)
        for bad in (None, SAME, [grid], "a b", Grid(ABC, (0, 1, 2), (0, 0, 0)), Kept(grid), Grid(ABCD, (0, 0, 1, 1), (0, 1, 2, 3)),
                    Grid(["a", "b", "c", "e"], grid.rows, grid.columns)):
            self.assertIs(self.shows([0, 3], bad, pairs), False)

    def test_numbers_of_no_fact(self):
        book, tree = Book(["a", "b"], sayings_of("not row a b", "not column a b"), 1), [["many", "row", ["a", "b"]]]
        for lot, is_right in (((0,), True), ((0, 1), True), ((0, 2), False), ((-1, 0), False)):
            self.assertIs(shows_slips(book, Slips([0], Grid(["a", "b"], (0, 0), (0, 1)), [(lot, tree)])), is_right)

    def test_the_empty_lot(self):
        book = book_of(TORN, (0, 2, 4))
        grid = grid_of(book).grid
        self.assertIs(shows_slips(book, Slips([], grid, [])), True)
        self.assertIs(shows_slips(book, Slips([], grid, [((0,), self.row)])), False)
        self.assertIs(shows_slips(book, Slips([0], grid, [])), False)
        crowded = grid_of(bare(CROWDED)).tree
        self.assertIs(shows_slips(CROWDED, Slips([], Grid(ABC, (0, 0, 1), (0, 1, 0)), [((), crowded)])), False)
        self.assertIs(shows_slips(TORN, Slips([], grid, self.pairs)), False)

    def test_other_values(self):
        parts = ([0, 3], slips(TORN).grid, self.pairs)
        self.assertIs(self.shows(*parts), True)
        for value in (None, True, SAME, parts, Paper("slips", *parts), Denial("slips", *parts), "slips", Kept(parts[1]),
                      Clash(*parts), Slips(self.pairs, parts[1], [0, 3])):
            self.assertIs(shows_slips(TORN, value), False)


if __name__ == "__main__":
    unittest.main()
