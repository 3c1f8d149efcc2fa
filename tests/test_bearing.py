"""Lots that bear a fact: beside a plain going through all lots and a plain listing of all grids."""

import itertools
import random
import unittest

from mutesigns.bearing import Bears, Unborne, all_bearing, bearing, bears
from mutesigns.books import Book
from mutesigns.check_slips import shows_bearing
from mutesigns.errors import BadBook, BadFact, BadNumber, Impossible, NoFact, NoSign, TooMany, Twice
from mutesigns.facts import Fact, as_fact
from mutesigns.grids import Grid
from mutesigns.papers import Denial, Paper
from mutesigns.possible import grid_of
from mutesigns.sayings import Saying
from oracles import drawn_book, drawn_sayings, is_right_tree, kept_grids
from support import NO_INTEGERS, NO_LISTS, SAME, Case
from test_books import EIGHT
from test_facts import fact_of, sayings_of
from test_grids import all_grids
from test_plain import drawn_plain_books

ABC = ["a", "b", "c"]
ABCD = ["a", "b", "c", "d"]
CROWDED = Book(ABC, sayings_of("row a b"), 1, 2)
TORN = Book(ABC, sayings_of("row a b", "not row a b"), 3)


def lots_in_order(many):
    return [lot for size in range(many + 1) for lot in itertools.combinations(range(many), size)]


def least(lots):
    """Those of the lots no other one of which is a part of them."""
    return tuple(lot for lot in lots if not any(set(other) < set(lot) for other in lots))


def bare(book):
    """The book without its facts."""
    return Book(book.signs, [], book.most_rows, book.most_columns)


def book_of(book, lot):
    return Book(book.signs, [book.facts[number] for number in lot], book.most_rows, book.most_columns)


def broken_sets(book, is_left=lambda grid: True):
    """For each grid within the bounds that is left which facts it breaks, told plainly."""
    return [frozenset(number for number, fact in enumerate(book.facts) if not any(grid.holds(one) for one in fact.sayings))
            for grid in all_grids(book.signs) if grid.keeps(bare(book)) and is_left(grid)]


def refused_lots(book, is_left=lambda grid: True):
    """All lots such that each grid left breaks some fact of them."""
    sets = broken_sets(book, is_left)
    return [lot for lot in lots_in_order(len(book)) if all(broken & set(lot) for broken in sets)]


def fails(asked):
    return lambda grid: not any(grid.holds(one) for one in as_fact(asked).sayings)


def drawn_lot_books(seed, count, many, most_facts, bounds=(None, None, None, 2, 3)):
    """Books that some grid keeps or not, but their bounds always."""
    draw = random.Random(seed)
    found = []
    while len(found) < count:
        book = drawn_book(draw, EIGHT[:many], most_facts, bounds)
        if grid_of(bare(book)):
            found.append(book)
    return found


class Bearing(Case):
    def check(self, book, asked):
        """Returns the kind of what was found."""
        refused = refused_lots(book, fails(asked))
        found = bearing(book, asked)
        self.assertEqual(found, bearing(asked=as_fact(asked), book=book))
        self.assertIs(shows_bearing(book, asked, found), True)
        self.assertEqual(all_bearing(book, asked), least(refused))
        for lot in random.Random(len(refused)).sample(lots_in_order(len(book)), min(6, 2 ** len(book))):
            told = random.Random(sum(lot)).sample(lot, len(lot))
            self.assertIs(bears(book, asked, told), lot in refused)
            self.assertIs(bears(numbers=tuple(told), asked=asked, book=book), lot in refused)
        if not refused:
            self.assertEqual((type(found), found.kind, bool(found)), (Unborne, "unborne", False))
            self.assertTrue(found.grid.keeps(book) and fails(asked)(found.grid))
            return found.kind
        self.assertEqual((type(found), found.kind, bool(found)), (Bears, "bears", True))
        self.assertEqual(found.numbers, refused[0])
        denied = [one.contrary() for one in as_fact(asked).sayings]
        self.assertTrue(is_right_tree(book_of(book, found.numbers), denied, found.tree))
        self.check_grids(book, asked, found)
        return len(found.numbers)

    def check_grids(self, book, asked, found):
        for grid in found.grids:
            self.assertTrue(grid.keeps(bare(book)) and fails(asked)(grid))
        if found.numbers == ():
            self.assertEqual(found.grids, ())
        else:
            for lot in itertools.combinations(range(len(book)), len(found.numbers) - 1):
                self.assertTrue(any(grid.keeps(book_of(book, lot)) for grid in found.grids))

    def test_drawn(self):
        draw = random.Random(11)
        kinds = []
        for many, count in ((2, 30), (3, 100), (4, 100)):
            for book in drawn_lot_books(many, count, many, 5):
                if grid_of(book):
                    kinds.append(self.check(book, Fact(drawn_sayings(draw, book.signs, draw.choice((1, 1, 2, 3, 4))))))
        self.assertTrue(all(kinds.count(kind) > 5 for kind in ("unborne", 0, 1)), kinds)

    def test_drawn_sure_ones(self):
        kinds = []
        for seed, facts in enumerate(((1, 1, 1, 1, 1), (1, 1, 2, 1, 1), (2, 1, 2, 1, 2), (2, 2, 2, 3, 2)) * 14):
            draw = random.Random(seed)
            signs = ABCD[:draw.choice((3, 4, 4))]
            book = Book(signs, [Fact(drawn_sayings(draw, signs, many)) for many in facts], draw.choice((None, 2, 3)))
            sure = [one for one in drawn_sayings(draw, signs, 99) if all(grid.holds(one) for grid in kept_grids(book))]
            if grid_of(book):
                kinds += [self.check(book, asked) for asked in sure[:2]]
                kinds += [self.check(book, Fact([asked, sure[3]])) for asked in sure[2:3] if len(sure) > 3]
        self.assertTrue(all(kinds.count(kind) > 3 for kind in (1, 2, 3)), kinds)

    def test_eight_facts(self):
        draw = random.Random(12)
        done = 0
        for book in drawn_lot_books(13, 80, 4, 8):
            if len(book) == 8 and grid_of(book):
                self.check(book, drawn_sayings(draw, book.signs, 1)[0])
                done += 1
        chain = Book(EIGHT, [Saying("row", one, other) for one, other in zip(EIGHT, EIGHT[1:])] + sayings_of("row a h"))
        self.assertEqual(bearing(chain, Saying("row", "a", "d")).numbers, (0, 1, 2))
        self.assertEqual(all_bearing(chain, Saying("row", "a", "d")), ((0, 1, 2), (3, 4, 5, 6, 7)))
        self.assertIs(bears(chain, Saying("row", "a", "d"), [7, 6, 5, 4, 3]), True)
        self.assertIs(bears(chain, Saying("row", "a", "d"), [7, 6, 5, 4, 2, 1]), False)
        self.assertGreater(done, 0)

    def test_plain_books_of_many_signs(self):
        draw = random.Random(14)
        for book in drawn_plain_books(15, 60, 8):
            if len(book) <= 8 and grid_of(book) and len(book.signs) > 1:
                asked = Fact(drawn_sayings(draw, book.signs, draw.choice((1, 2))))
                found = bearing(book, asked)
                self.assertIs(shows_bearing(book, asked, found), True)
                lots = [lot for lot in lots_in_order(len(book)) if bears(book, asked, lot)]
                self.assertEqual(all_bearing(book, asked), least(lots))
                self.assertEqual(lots[:1], [found.numbers] if found else [])

    def test_six_signs(self):
        draw = random.Random(16)
        for book in drawn_lot_books(17, 6, 6, 8, (None, 3, 4)):
            if grid_of(book) and not book.is_plain:
                asked = drawn_sayings(draw, book.signs, 1)[0]
                found = bearing(book, asked)
                self.assertIs(shows_bearing(book, asked, found), True)
                lots = [lot for lot in lots_in_order(len(book)) if bears(book, asked, lot)]
                self.assertEqual(all_bearing(book, asked), least(lots))

    def test_facts_that_hold_in_each_grid(self):
        for book in (Book(ABC), Book(ABC, sayings_of("row a b"), 2), Book(ABC, [fact_of("row a b", "column b c")])):
            for asked in (fact_of("row a b", "not row a b"), fact_of("not row a b", "not column a b"),
                          fact_of("not row a c", "not column a c", "row b c")):
                self.assertEqual((bearing(book, asked).numbers, bearing(book, asked).grids), ((), ()))
                self.assertEqual(all_bearing(book, asked), ((),))
                self.assertIs(bears(book, asked, []), True)
        always = fact_of("row a b", "not row a b")
        told = Book(ABC, [always, *sayings_of("row a b", "row b c"), always])
        self.assertEqual(all_bearing(told, Saying("row", "a", "c")), ((1, 2),))

    def test_facts_twice(self):
        row = Saying("row", "a", "b")
        book = Book(ABC, [row, Saying("row", "b", "c"), row])
        self.assertEqual(all_bearing(book, row), ((0,), (2,)))
        self.assertEqual(all_bearing(book, Saying("row", "a", "c")), ((0, 1), (1, 2)))
        self.assertEqual(bearing(book, Saying("row", "a", "c")).numbers, (0, 1))
        self.assertEqual(all_bearing(book, Saying("column", "a", "c")), ())

    def test_bounds_bear(self):
        book = Book(ABC, [], 1)
        self.assertEqual(bearing(book, Saying("row", "a", "c")).numbers, ())
        self.assertEqual(bearing(book, Saying("column", "a", "c", False)).numbers, ())
        self.assertEqual(bearing(book, Saying("column", "a", "c")).kind, "unborne")

    def test_crossed_and_one_more(self):
        draw = random.Random(18)
        for book in drawn_lot_books(19, 60, 3, 5):
            if grid_of(book):
                asked = Fact(drawn_sayings(draw, book.signs, 2))
                self.assertEqual(all_bearing(book.crossed(), asked.crossed()), all_bearing(book, asked))
                more = book.with_fact(drawn_sayings(draw, book.signs, 1)[0])
                if grid_of(more):
                    lots = all_bearing(more, asked)
                    self.assertEqual(tuple(lot for lot in lots if len(book) not in lot), all_bearing(book, asked))


class BearingErrors(Case):
    def test_order(self):
        right = {"book": Book(ABC, sayings_of("row a b", "row b c")), "asked": Saying("row", "a", "c")}
        faults = [(BadBook("book"), {"book": None}), (BadFact("asked"), {"asked": [Saying("row", "a", "b")]}),
                  (NoSign("j"), {"asked": fact_of("row a b", "row a j", "row i k")})]
        numbers = [(BadNumber("numbers"), {"numbers": [0, True]}), (NoFact(2), {"numbers": [0, 0, 2, -1]}),
                   (Twice(1), {"numbers": [0, 1, 1, 0]})]
        seven = Book(EIGHT[:7], sayings_of("row a b", "row b c"), 1, 1)
        nine = Book(ABC, [Saying("row", "a", "b"), Saying("row", "a", "b", False)] * 5, 1, 2)
        crowded = Book(ABC, sayings_of("row a b", "row b c"), 1, 2)
        torn = Book(ABC, sayings_of("row a b", "row b c", "not row a c"), 2)
        for last in ((TooMany("signs", 6), {"book": seven}), (TooMany("facts", 8), {"book": nine}),
                     (Impossible(grid_of(bare(crowded))), {"book": crowded}), (Impossible(grid_of(torn)), {"book": torn})):
            self.refuses_in_order(bearing, right, [*faults, last])
            self.refuses_in_order(all_bearing, right, [*faults, last])
            self.refuses_in_order(bears, {**right, "numbers": [1, 0]}, [*faults, numbers[0], last])
        self.refuses_in_order(bears, {**right, "numbers": [1, 0]}, [*faults, *numbers])
        self.refuses_in_order(shows_bearing, {**right, "value": None}, faults)

    def test_last_ones(self):
        seven = Book(EIGHT[:7], [Saying("row", "a", "b")] * 9, 1, 1)
        nine = Book(EIGHT, [Saying("row", "a", "b"), Saying("row", "a", "b", False)] * 5)
        empty = grid_of(Book(ABC, [], 1, 2))
        for call, more in ((bearing, ()), (all_bearing, ()), (bears, ([0],))):
            self.refuses(TooMany("signs", 6), call, seven, Saying("row", "a", "c"), *more)
            self.refuses(TooMany("facts", 8), call, nine, Saying("row", "a", "c"), *more)
            self.refuses(TooMany("facts", 8), call, Book(ABC, [Saying("row", "a", "b")] * 9, 1, 1), Saying("row", "a", "c"), *more)
            self.refuses(Impossible(empty), call, CROWDED, Saying("row", "a", "c"), *more)
            self.refuses(Impossible(grid_of(TORN)), call, TORN, Saying("row", "a", "c"), *more)
            call(Book(EIGHT, [Saying("row", "a", "b")] * 8), Saying("row", "a", "c"), *more)

    def test_numbers(self):
        book, asked = Book(ABC, sayings_of("row a b", "row b c")), Saying("row", "a", "c")
        for value in NO_LISTS + [0, "01", [0, None]] + [[0, number] for number in NO_INTEGERS]:
            self.refuses(BadNumber("numbers"), bears, book, asked, value)
        for numbers, first in (([2], 2), ([0, -1], -1), ((1, 5, 3), 5), ([10 ** 70], 10 ** 70), ([0, 0, 2], 2)):
            self.refuses(NoFact(first), bears, book, asked, numbers)
        for numbers, first in (([0, 0], 0), ((1, 0, 0, 1), 0), ([1, 0, 1, 0], 1)):
            self.refuses(Twice(first), bears, book, asked, numbers)

    def test_each(self):
        for call, more in ((bearing, ()), (all_bearing, ()), (bears, ([],)), (shows_bearing, (None,))):
            for value in (None, 0, "a : - - : -", ABC, SAME):
                self.refuses(BadBook("book"), call, value, Saying("row", "a", "b"), *more)
            for value in (None, 0, "row a b", [], sayings_of("row a b"), Book(ABC), SAME):
                self.refuses(BadFact("asked"), call, Book(ABC), value, *more)
            self.refuses(NoSign("d"), call, Book(ABC), fact_of("row a b", "row d e"), *more)
            self.refuses(NoSign("aa"), call, Book(ABC), Saying("row", "b", "aa"), *more)


class ShowsBearing(Case):
    """The book: a b, b c, and a d or b d begin alike; asked is that a and c do."""

    def setUp(self):
        self.book = Book(ABCD, [*sayings_of("row a b", "row b c"), fact_of("row a d", "row b d")])
        self.asked = Saying("row", "a", "c")
        self.tree = [["apart", "row", "a", "c"]]
        self.grids = [Grid.of(ABCD, places) for places in
                      ([(0, 0), (0, 1), (1, 0), (0, 2)], [(0, 0), (1, 0), (1, 1), (0, 1)])]

    def shows(self, *parts):
        return shows_bearing(self.book, self.asked, Bears(*parts))

    def test_right(self):
        self.assertIs(self.shows([0, 1], self.tree, self.grids), True)
        self.assertIs(self.shows((0, 1), tuple(self.tree), tuple(self.grids[::-1])), True)
        self.assertIs(self.shows([0, 1], self.tree, self.grids * 2), True)
        forked = [["row", "a", "d", 1, 2], ["apart", "row", "a", "c"], ["apart", "row", "a", "c"]]
        self.assertIs(self.shows([0, 1], forked, self.grids), True)

    def test_numbers(self):
        for numbers in ([1, 0], [0], [1], [], [0, 1, 2], [0, 2], [1, 2], [0, 1, 3], [-1, 0, 1], [0, 1, 1], [0, 0, 1], [False, True],
                        [0, True], [0, 1.0], [0, "1"], [0, None], None, SAME, "01", 1, [0, SAME], [0, 10 ** 70], {0: 1, 1: 1}):
            self.assertIs(self.shows(numbers, self.tree, self.grids), False, numbers)

    def test_first_of_as_many(self):
        book = Book(ABC, sayings_of("row a b", "row a b"))
        split = [Grid(ABC, (0, 1, 0), (0, 1, 2))]
        for numbers, is_right in (([0], True), ([1], True), ([0, 1], False)):
            paper = Bears(numbers, [["apart", "row", "a", "b"]], split)
            self.assertIs(shows_bearing(book, Saying("row", "a", "b"), paper), is_right)

    def test_trees(self):
        for tree in (None, [], self.tree[0], [self.tree], [["place", "a", "c"]], [["apart", "row", "a", "b"]], SAME, "apart",
                     [["fact", 0]], [["apart", "row", "c", "a"]], [*self.tree, *self.tree]):
            self.assertIs(self.shows([0, 1], tree, self.grids), False)
        self.assertIs(shows_bearing(self.book, Saying("row", "b", "c"), Bears([0, 1], self.tree, self.grids)), False)

    def test_trees_of_facts_counted_anew(self):
        book = Book(ABC, [*sayings_of("column a c"), fact_of("row a b", "row a c")])
        asked = fact_of("row a b", "row a c")
        grids = [Grid(ABC, (0, 1, 2), (0, 1, 0))]
        self.assertIs(shows_bearing(book, asked, Bears([1], [["fact", 0]], grids)), True)
        self.assertIs(shows_bearing(book, asked, Bears([1], [["fact", 1]], grids)), False)
        self.assertEqual(bearing(book, asked).tree, (("fact", 0),))

    def test_grids(self):
        one, other = self.grids
        wrong = Grid.of(ABCD, [(0, 0), (0, 1), (0, 2), (0, 3)])
        for grids in ([one], [other], [], [one, one], [one, other, wrong], [one, other, None], None, SAME, "ab", one,
                      [one, SAME], [one, other, Grid(ABC, (0, 1, 2), (0, 0, 0))], [one, [other]], {0: one, 1: other},
                      [one, Grid(["a", "b", "c", "e"], other.rows, other.columns)], [one, Unborne(other)]):
            self.assertIs(self.shows([0, 1], self.tree, grids), False)
        for grid in all_grids(ABCD):
            is_right = grid.keeps_fact(self.book.facts[1]) and not grid.holds(self.asked)
            self.assertIs(self.shows([0, 1], self.tree, [one, grid]), is_right)

    def test_grids_beyond_the_bounds(self):
        book = Book(ABC, sayings_of("row a b"), 2)
        tree = [["apart", "row", "a", "b"]]
        two, three = Grid(ABC, (0, 1, 0), (0, 0, 1)), Grid(ABC, (0, 1, 2), (0, 0, 0))
        for grids, is_right in (([two], True), ([three], False), ([two, three], False)):
            self.assertIs(shows_bearing(book, Saying("row", "a", "b"), Bears([0], tree, grids)), is_right)
            self.assertIs(shows_bearing(book.bounded(3, 3), Saying("row", "a", "b"), Bears([0], tree, grids)), True)

    def test_the_empty_lot(self):
        asked, tree = fact_of("row a b", "not row a b"), [["apart", "row", "a", "b"]]
        self.assertIs(shows_bearing(self.book, asked, Bears([], tree, [])), True)
        for grid in self.grids:
            self.assertIs(shows_bearing(self.book, asked, Bears([], tree, [grid])), False)
        one_row = Book(ABC, [], 1)
        trees = [[["many", "row", ["a", "b"]]], [["many", "row", ["a", "c"]]]]
        self.assertIs(shows_bearing(one_row, Saying("row", "a", "b"), Bears([], trees[0], [])), True)
        self.assertIs(shows_bearing(one_row, Saying("row", "a", "b"), Bears([], trees[1], [])), False)

    def test_of_a_book_that_clashes(self):
        first, second = sayings_of("row a b", "not row a b")
        book, asked = Book(ABC, [first, second]), Saying("column", "a", "b")
        grids = [Grid(ABC, (0, 0, 0), (0, 1, 2)), Grid(ABC, (0, 1, 0), (0, 1, 2))]
        self.assertIs(shows_bearing(book, asked, Bears([0, 1], [["apart", "row", "a", "b"]], grids)), True)
        self.assertIs(shows_bearing(book, asked, Bears([0, 1], [["apart", "row", "a", "b"]], grids[:1])), False)
        crowd = [["row", "a", "b", 1, 2], ["row", "a", "c", 3, 4], ["many", "row", ["a", "b"]],
                 ["many", "column", ["a", "b", "c"]], ["many", "row", ["a", "c"]]]
        self.assertIs(shows_bearing(CROWDED, asked, Bears([], crowd, [])), True)
        self.assertIs(shows_bearing(CROWDED, asked, Bears([0], crowd, [])), False)

    def test_unborne(self):
        for grid in all_grids(ABC):
            for book in (Book(ABC, sayings_of("row a b"), 2), Book(ABC, [fact_of("row a b", "column b c")], None, 2)):
                for asked in (Saying("row", "a", "c"), fact_of("row a c", "column a b")):
                    is_right = grid.keeps(book) and not grid.keeps_fact(asked)
                    self.assertIs(shows_bearing(book, asked, Unborne(grid)), is_right)
        for bad in (None, SAME, self.grids, "a b", Grid(["a", "b"], (0, 1), (0, 0)), Unborne(self.grids[0])):
            self.assertIs(shows_bearing(self.book, self.asked, Unborne(bad)), False)

    def test_other_values(self):
        parts = ([0, 1], self.tree, self.grids)
        for value in (None, True, SAME, parts, Paper("bears", *parts), Denial("bears", *parts), "bears", self.grids[0],
                      Unborne(parts), Bears(self.grids, self.tree, [0, 1])):
            self.assertIs(shows_bearing(self.book, self.asked, value), False)

    def test_large_books(self):
        ring = [Saying("row", one, other) for one, other in zip(EIGHT, EIGHT[1:])]
        book = Book(EIGHT, [*ring, *[Fact([one]) for one in ring[:4]], fact_of("row a h", "row a g")], 8, 8)
        asked = Saying("row", "a", "b")
        split = Grid.of(EIGHT, [(1, 0)] + [(2, at) for at in range(7)])
        self.assertIs(shows_bearing(book, asked, Bears([0], [["apart", "row", "a", "b"]], [split])), True)
        self.assertIs(shows_bearing(book, asked, Bears([7], [["apart", "row", "a", "b"]], [split] * 500)), True)
        self.assertIs(shows_bearing(book, asked, Bears(range_of(6), [["apart", "row", "a", "b"]], [split] * 500)), False)
        self.assertIs(shows_bearing(book, asked, Unborne(split)), False)
        self.assertIs(shows_bearing(book, Saying("row", "a", "c"), Bears([0, 1], [["apart", "row", "a", "c"]], [split])), False)

    def test_papers(self):
        paper = Bears(grids=[3], tree=[2], numbers=[1])
        self.assertEqual((paper.numbers, paper.tree, paper.grids, paper.parts), ((1,), (2,), (3,), ((1,), (2,), (3,))))
        self.assertEqual((Unborne(grid=[1]).grid, Unborne(1).kind, bool(Unborne(1)), bool(paper)), ((1,), "unborne", False, True))


def range_of(many):
    return list(range(many))


if __name__ == "__main__":
    unittest.main()
