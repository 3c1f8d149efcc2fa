"""Answers over all grids, the sure grid, the papers that show them: beside a plain listing of all grids."""

import itertools
import random
import unittest

from mutesigns.answers import Never, Open, Sure, answer, sure_sayings, words_of
from mutesigns.books import Book
from mutesigns.check_answers import shows_answer
from mutesigns.errors import BadBook, BadFact, BadGrid, Impossible, Misfit, NoSign, TooMany
from mutesigns.facts import Fact, as_fact
from mutesigns.grids import Grid
from mutesigns.papers import Denial, Paper
from mutesigns.plain import finest, word_in
from mutesigns.possible import Kept, NoGrid, grid_of
from mutesigns.refusing import tree_with
from mutesigns.sayings import Saying
from mutesigns.suregrid import parts_of, sure_grid
from oracles import SIDES, drawn_book, drawn_books, drawn_sayings, is_right_tree, kept_grids
from support import SAME, Case
from test_books import EIGHT
from test_facts import fact_of, sayings_of
from test_grids import all_grids
from test_plain import drawn_plain_books
from test_trees import ring_of

ABC = ["a", "b", "c"]
ABCD = ["a", "b", "c", "d"]
LARGE = [Book(EIGHT[:7], [], 8), Book(EIGHT, [], None, 8), Book(EIGHT, [fact_of("row a b", "row a c")])]
TORN = [Book(ABC, [], 1, 2), Book(ABC, sayings_of("row a b", "column a b")),
        Book(ABCD, [fact_of("row a b", "row a c"), *sayings_of("column a b", "column b c")])]


def word_for(grids, fact):
    """Whether the fact is sure, never or open over these grids."""
    held = {grid.keeps_fact(fact) for grid in grids}
    return "open" if len(held) == 2 else "sure" if True in held else "never"


class Answers(Case):
    def check(self, book, asked, grids):
        fact, found = as_fact(asked), answer(book, asked)
        self.assertEqual(found.kind, word_for(grids, asked))
        self.assertEqual(found, answer(asked=fact, book=book))
        self.assertIs(shows_answer(book, asked, found), True)
        if found.kind == "sure":
            self.assertEqual((type(found), bool(found)), (Sure, True))
            self.assertTrue(is_right_tree(book, [saying.contrary() for saying in fact.sayings], found.tree))
        elif found.kind == "never":
            self.assertEqual((type(found), bool(found), len(found.trees)), (Never, False, len(fact.sayings)))
            for saying, tree in zip(fact.sayings, found.trees):
                self.assertTrue(is_right_tree(book, [saying], tree))
        else:
            self.assertEqual((type(found), bool(found)), (Open, True))
            self.assertTrue(found.one in grids and found.one.keeps_fact(fact))
            self.assertTrue(found.other in grids and not found.other.keeps_fact(fact))

    def check_words(self, book, grids):
        sayings = [Saying(side, *two) for side in SIDES for two in itertools.combinations(book.signs, 2)]
        words = [(one.side, one.one, one.other, word_for(grids, one)) for one in sayings]
        self.assertEqual(words_of(book), tuple(words))
        told = [one for saying in sayings for one in (saying.contrary(), saying) if word_for(grids, one) == "sure"]
        self.assertEqual(sure_sayings(book=book), tuple(told))
        self.assertEqual(len(told) == len(sayings), len(grids) == 1)
        grid = sure_grid(book)
        for side, one, other, word in words:
            self.assertEqual(grid.are_alike(side, one, other), word == "sure")
        self.assertEqual((grid.signs, sure_grid(book=book)), (book.signs, grid))

    def check_impossible(self, book):
        paper = grid_of(book)
        self.assertEqual(type(paper), NoGrid)
        for call in (words_of, sure_sayings, sure_grid):
            self.refuses(Impossible(paper), call, book)
        self.refuses(Impossible(paper), answer, book, Saying("row", "a", "b"))

    def test_drawn(self):
        draw = random.Random(51)
        for many, books in ((2, 40), (3, 100), (4, 100)):
            for book in drawn_books(50 + many, books, EIGHT[:many]):
                grids = kept_grids(book)
                if not grids:
                    self.check_impossible(book)
                    continue
                self.check_words(book, grids)
                for asked in [*drawn_sayings(draw, book.signs, 4), *[
                        Fact(drawn_sayings(draw, book.signs, times)) for times in (1, 2, 3, 4)]]:
                    self.check(book, asked, grids)

    def test_one_sign(self):
        for book in (Book(["q"]), Book(["q"], [], 1, 1)):
            self.assertEqual((words_of(book), sure_sayings(book)), ((), ()))
            self.assertEqual(sure_grid(book), Grid(["q"], [0], [0]))

    def test_six_signs(self):
        draw = random.Random(61)
        grids = all_grids(EIGHT[:6])
        for book in drawn_books(62, 12, EIGHT[:6], most_facts=12, bounds=(None, 2, 3)):
            kept = [grid for grid in grids if grid.keeps(book)]
            if kept and not book.is_plain:
                self.check(book, Fact(drawn_sayings(draw, book.signs, 3)), kept)
                self.check_words(book, kept)

    def test_sure_though_none_is(self):
        fact = fact_of("row a b", "row a c")
        book = Book(ABC, [fact])
        self.assertEqual([answer(book, fact).kind, *[answer(book, one).kind for one in fact.sayings]],
                         ["sure", "open", "open"])
        self.assertEqual((sure_sayings(book), sure_grid(book).keeps(book)), ((), False))

    def test_a_fact_that_always_holds(self):
        fact = fact_of("row a b", "not row a b")
        for book in (Book(ABC), Book(ABC, [], 3), Book(EIGHT)):
            self.assertEqual(answer(book, fact).kind, "sure")
            self.assertTrue(is_right_tree(book, fact.sayings, answer(book, fact).tree))

    def test_a_ring_and_a_bound(self):
        book = Book(ABCD, sayings_of("not row a b", "not row b c"), 2)
        self.assertEqual(answer(book, Saying("row", "a", "c")).kind, "sure")
        self.assertEqual(answer(book, Saying("column", "a", "c")).kind, "never")
        self.assertEqual(answer(book, Saying("row", "a", "d")).kind, "open")
        self.assertEqual(sure_grid(book), Grid(ABCD, (0, 1, 0, 2), (0, 1, 2, 3)))
        ring = Book(ABCD, ring_of(ABCD), 2)
        self.assertEqual([str(one) for one in sure_sayings(ring)], [
            "not column a c", "not column b d", "not row a b", "row a c", "not row a d", "not row b c", "row b d", "not row c d"])

    def test_sure_grid_beyond_the_bounds(self):
        book = Book(ABCD, [], 2, 2)
        self.assertEqual((sure_grid(book).rows, sure_grid(book).keeps(book)), ((0, 1, 2, 3), False))

    def test_plain_books(self):
        draw = random.Random(71)
        for book in drawn_plain_books(72, 60, 8):
            if not grid_of(book):
                self.check_impossible(book)
                continue
            self.assertEqual(sure_grid(book), finest(book).grid)
            for side, one, other, word in words_of(book):
                self.assertEqual(word, word_in(book, side, one, other))
            asked = Fact(drawn_sayings(draw, book.signs, draw.randint(1, 4)))
            found = answer(book, asked)
            self.assertIs(shows_answer(book, asked, found), True)
            is_sure = tree_with(book, [saying.contrary() for saying in asked.sayings]) is not None
            is_never = all([tree_with(book, [saying]) is not None for saying in asked.sayings])
            self.assertEqual(found.kind, "sure" if is_sure else "never" if is_never else "open")

    def test_crossed(self):
        for book in drawn_books(81, 30, ABCD, bounds=(None, 2, 3)):
            asked = fact_of("row a b", "not column b c")
            if grid_of(book):
                self.assertEqual(answer(book, asked).kind, answer(book.crossed(), asked.crossed()).kind)


class Parts(Case):
    def test_all_of_three_signs(self):
        for one, other in itertools.product(all_grids(ABC), repeat=2):
            found = [(side, *two) for side in SIDES for two in itertools.combinations(ABC, 2)
                     if one.are_alike(side, *two) != other.are_alike(side, *two)]
            self.assertEqual(parts_of(one, other), tuple(found))
            self.assertEqual(parts_of(other=one, one=other), tuple(found))

    def test_errors(self):
        grid = Grid(["a", "b"], (0, 0), (0, 1))
        for value in (None, "a b : 0 0 : 0 1", Book(ABC), [grid], Kept(grid), SAME):
            self.refuses(BadGrid("one"), parts_of, value, grid)
            self.refuses(BadGrid("one"), parts_of, value, None)
            self.refuses(BadGrid("other"), parts_of, grid, value)
        for other in (Grid(["a", "c"], (0, 0), (0, 1)), Grid(["a"], (0,), (0,)), Grid(ABC, (0, 0, 0), (0, 1, 2))):
            self.refuses(Misfit("signs"), parts_of, grid, other)
            self.refuses(Misfit("signs"), parts_of, other, grid)


class ShowsAnswer(Case):
    def setUp(self):
        self.book = Book(ABCD, sayings_of("row a b", "row c d", "column a c"))
        self.open = Saying("column", "b", "d")
        self.grids = kept_grids(self.book)

    def test_sure(self):
        asked = fact_of("row a c", "not row b c")
        tree = [["place", "a", "c"]]
        self.assertIs(shows_answer(self.book, asked, Sure(tree)), True)
        self.assertIs(shows_answer(value=Sure((("place", "a", "c"),)), asked=asked, book=self.book), True)
        for bent in ([], None, tree[0], [tree], [["place", "b", "c"]], SAME, [["apart", "row", "b", "c"]]):
            self.assertIs(shows_answer(self.book, asked, Sure(bent)), False)
        self.assertIs(shows_answer(self.book, Saying("row", "b", "c"), Sure(tree)), False)
        self.assertIs(shows_answer(self.book, Saying("row", "a", "b"), Sure([["apart", "row", "a", "b"]])), True)
        self.assertIs(shows_answer(self.book, Saying("row", "c", "d"), Sure([["apart", "row", "a", "b"]])), False)
        self.assertIs(shows_answer(self.book, Saying("row", "b", "c", False), Sure(tree)), True)

    def test_never(self):
        asked = fact_of("row b c", "column a d", "not row a b")
        self.assertEqual([str(one) for one in asked.sayings], ["column a d", "not row a b", "row b c"])
        trees = [[["place", "c", "d"]], [["apart", "row", "a", "b"]], [["place", "a", "c"]]]
        self.assertIs(shows_answer(self.book, asked, Never(trees)), True)
        self.assertIs(shows_answer(self.book, asked, Never([tuple(tree) for tree in trees])), True)
        for bent in (trees[:2], [*trees, trees[2]], [trees[1], trees[0], trees[2]], [], None, trees[0], [None, *trees[1:]],
                     [[], *trees[1:]], SAME, "abc", [*trees[:2], trees[0]], {0: 1, 1: 2, 2: 3}):
            self.assertIs(shows_answer(self.book, asked, Never(bent)), False)
        self.assertIs(shows_answer(self.book, asked.sayings[0], Never(trees[:1])), True)
        self.assertIs(shows_answer(self.book, asked.sayings[1], Never(trees[:1])), False)

    def test_open(self):
        holds = [grid for grid in self.grids if grid.holds(self.open)]
        fails = [grid for grid in self.grids if not grid.holds(self.open)]
        other = [grid for grid in all_grids(ABCD) if not grid.keeps(self.book)]
        for one, two in itertools.product([*self.grids, *other[:20]], repeat=2):
            self.assertIs(shows_answer(self.book, self.open, Open(one, two)), one in holds and two in fails)
        for bad in (None, SAME, str(holds[0]), [holds[0]], Kept(holds[0]), Grid(ABC, (0, 0, 1), (0, 1, 0)),
                    Grid(ABCD + ["e"], (0, 0, 1, 1, 2), (0, 1, 0, 1, 2)), holds[0].renamed(dict(zip("abcd", "wxyz")))):
            self.assertIs(shows_answer(self.book, self.open, Open(bad, fails[0])), False)
            self.assertIs(shows_answer(self.book, self.open, Open(holds[0], bad)), False)
        self.assertIs(shows_answer(self.book, self.open, Open(other=fails[0], one=holds[0])), True)

    def test_open_either_or(self):
        asked = fact_of("row a b", "column a b")
        grids = all_grids(ABC)
        for one, other in itertools.product(grids, repeat=2):
            self.assertIs(shows_answer(Book(ABC), asked, Open(one, other)),
                          one.keeps_fact(asked) and not other.keeps_fact(asked))

    def test_of_a_book_that_clashes(self):
        tree = [["many", "row", ["a", "b"]]]
        book = Book(["a", "b"], sayings_of("not row a b"), 1)
        for asked in sayings_of("column a b", "row a b", "not column a b"):
            self.assertIs(shows_answer(book, asked, Sure(tree)), str(asked) != "not row a b")
            self.assertIs(shows_answer(book, asked, Never([tree])), str(asked) != "row a b")

    def test_other_values(self):
        tree, asked = [["place", "a", "c"]], Saying("row", "b", "c")
        grids = self.grids[:2]
        for value in (None, True, SAME, tree, Paper("sure", tree), Denial("never", [tree]), Paper("never", [tree]),
                      Paper("open", *grids), NoGrid(tree), Kept(grids[0]), grids, "never", Sure([tree]), Never(tree)):
            self.assertIs(shows_answer(self.book, asked, value), False)
            self.assertIs(shows_answer(self.book, asked.contrary(), value), False)
        self.assertIs(shows_answer(self.book, asked, Never([tree])), True)

    def test_papers(self):
        self.assertEqual((Sure(tree=[[1]]).tree, Never(trees=[[]]).trees, Open(other=[2], one=1).other), (((1,),), ((),), (2,)))
        self.assertEqual((Sure(0).kind, Never(0).kind, Open(0, 1).kind, Open(0, 1).parts), ("sure", "never", "open", (0, 1)))


class AnswerErrors(Case):
    def test_order(self):
        right = {"book": Book(ABC, [], 3), "asked": Saying("row", "a", "b")}
        faults = [(BadBook("book"), {"book": None}), (BadFact("asked"), {"asked": "row a b"}),
                  (NoSign("i"), {"asked": fact_of("row a b", "row i j", "row j k")})]
        self.refuses_in_order(answer, right, [*faults, (TooMany("signs", 6), {"book": LARGE[0]})])
        self.refuses_in_order(answer, right, [*faults, (Impossible(grid_of(TORN[0])), {"book": TORN[0]})])
        self.refuses_in_order(shows_answer, {**right, "value": None}, [*faults, (TooMany("signs", 6), {"book": LARGE[0]})])

    def test_impossible(self):
        for book in TORN:
            for call in (words_of, sure_sayings, sure_grid):
                self.refuses(Impossible(grid_of(book)), call, book)
            self.refuses(Impossible(grid_of(book)), answer, book, fact_of("row a b", "row a c"))
            self.assertIs(shows_answer(book, Saying("row", "a", "b"), None), False)
        torn = Book(EIGHT, sayings_of("row a b", "column a b"))
        self.refuses(Impossible(NoGrid([["place", "a", "b"]])), words_of, torn)

    def test_too_many_ahead_of_impossible(self):
        book = Book(EIGHT[:7], [*sayings_of("row a b", "column a b")], 7)
        for call in (words_of, sure_sayings, sure_grid):
            self.refuses(TooMany("signs", 6), call, book)
            for large in LARGE:
                self.refuses(TooMany("signs", 6), call, large)
        for large in [*LARGE, book]:
            self.refuses(TooMany("signs", 6), answer, large, Saying("row", "a", "b"))
            for paper in (None, Sure([]), Never([]), Open(1, 2)):
                self.refuses(TooMany("signs", 6), shows_answer, large, Saying("row", "a", "b"), paper)

    def test_each(self):
        for value in (None, 0, "a : - - : -", ["a"], Saying("row", "a", "b")):
            for call in (words_of, sure_sayings, sure_grid):
                self.refuses(BadBook("book"), call, value)
            self.refuses(BadBook("book"), answer, value, Saying("row", "a", "b"))
            for paper in (None, Sure([]), Never([]), Open(1, 2)):
                self.refuses(BadBook("book"), shows_answer, value, Saying("row", "a", "b"), paper)
        for value in (None, 0, "row a b", [Saying("row", "a", "b")], (), Book(ABC), SAME, Kept(1)):
            self.refuses(BadFact("asked"), answer, Book(ABC), value)
            for paper in (None, Sure([]), Never([]), Open(1, 2)):
                self.refuses(BadFact("asked"), shows_answer, Book(ABC), value, paper)
        for call, more in ((answer, ()), (shows_answer, (None,))):
            self.refuses(NoSign("d"), call, Book(ABC), fact_of("row a b", "row d e"), *more)
            self.refuses(NoSign("x"), call, Book(ABC), fact_of("row a d", "column a x"), *more)
            self.refuses(NoSign("aa"), call, Book(ABC), Saying("row", "aa", "b"), *more)


if __name__ == "__main__":
    unittest.main()
