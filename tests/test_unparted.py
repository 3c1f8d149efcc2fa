"""Turnings that lead books: beside a plain trial of all renamings, straight and crossed, on all grids."""

import itertools
import random
import unittest

from bending import ODD, bent_paper, both_sorts, is_grid_in, is_row
from mutesigns.books import Book
from mutesigns.check_turnings import shows_turning_to
from mutesigns.errors import BadBook, BadTurning, Impossible, Misfit, TooMany
from mutesigns.listing import many_grids
from mutesigns.papers import Denial, Paper
from mutesigns.possible import Kept, grid_of
from mutesigns.sayings import Saying
from mutesigns.turnings import Leads, Turning, leads
from mutesigns.unparted import Led, Unled, like_pairs, like_signs, turning_to, turnings
from oracles import drawn_book, kept_grids
from support import NO_LISTS, SAME, Case
from test_books import EIGHT
from test_facts import fact_of, sayings_of
from test_grids import all_grids
from test_listing import NO_BOOKS
from test_turnings import ABC, BOOK, OTHER, OVER, SWAP, are_led, does_lead, grid_made, saying_made, turned_again, turning_of

FOR_ONE = (turnings, like_signs, like_pairs)
SIX = EIGHT[:6]


def all_turnings(book, other, pairs=(), is_crossed=None):
    """All turnings that fit two books, have these pairs, and are crossed as told, ascending, told plainly."""
    found = []
    for names in itertools.permutations(other.signs):
        for way in (False, True):
            bounds = (book.most_columns, book.most_rows) if way else (book.most_rows, book.most_columns)
            turning = turning_of(book.signs, names, way)
            if bounds == (other.most_rows, other.most_columns) and is_crossed in (None, way) and set(map(tuple, pairs)) <= set(turning.pairs):
                found.append(turning)
    return found


def grouped(values, images):
    """The values in groups, each with all images of its values."""
    return tuple(sorted({tuple(sorted(set(images(value)))) for value in values}))


def is_unled(fitting, kept, others, value):
    """Whether it is a right Unled, told plainly."""
    if not is_row(value.grids) or not is_row(value.others):
        return False
    if not all(is_grid_in(grid, kept) for grid in value.grids) or not all(is_grid_in(grid, others) for grid in value.others):
        return False
    return all(any(not is_grid_in(grid_made(turning, grid), others) for grid in value.grids)
               or any(not is_grid_in(grid_made(turning.back(), grid), kept) for grid in value.others) for turning in fitting)


def is_led(book, other, fitting, value):
    """Whether it is a right Led of any of these turnings, told plainly."""
    turning = value.turning
    if type(turning) is not Turning or not any(turning == one for one in fitting):
        return False
    return are_led(turning, book, other, value.trees) and are_led(turning.back(), other, book, value.back)


def drawn_two(seed, count, most=4):
    """Two books with as many signs that some grid keeps, mostly much alike, and the grids that keep them."""
    draw = random.Random(seed)
    found = []
    while len(found) < count:
        book = drawn_book(draw, EIGHT[:draw.randint(2, most)], 4, (None, None, 2, 3))
        turning = turning_of(book.signs, draw.sample(EIGHT, len(book.signs)), draw.choice((True, False)))
        other = turned_again(draw, turning, book)
        if grid_of(book) and grid_of(other):
            found.append((book, other, kept_grids(book), kept_grids(other)))
    return found


class OfOneBook(Case):
    def check(self, book, kept):
        right = [turning for turning in all_turnings(book, book) if does_lead(turning, kept, kept)]
        found = turnings(book)
        self.assertEqual([(one.pairs, one.is_crossed) for one in found], [(one.pairs, one.is_crossed) for one in right])
        self.assertEqual((type(found), found), (tuple, turnings(book=book)))
        self.assertEqual([(one.pairs, one.is_crossed) for one in found], sorted((one.pairs, one.is_crossed) for one in found))
        signs = grouped(book.signs, lambda sign: [dict(one.pairs)[sign] for one in right])
        self.assertEqual((like_signs(book), like_signs(book=book)), (signs, signs))
        pairs = [(side, *two) for side in ("column", "row") for two in itertools.combinations(book.signs, 2)]

        def images(pair):
            made = [saying_made(one, Saying(*pair)) for one in right]
            return [(one.side, one.one, one.other) for one in made]

        groups = grouped(pairs, images)
        self.assertEqual((like_pairs(book), like_pairs(book=book)), (groups, groups))
        self.assertEqual(len(all_turnings(book, book)) % len(right), 0)
        return len(found)

    def test_drawn(self):
        draw = random.Random(1)
        many = []
        while len(many) < 120:
            book = drawn_book(draw, EIGHT[:draw.choice((2, 3, 3, 4))], draw.choice((1, 2, 4)), (None, None, 2, 3))
            if grid_of(book):
                many.append(self.check(book, kept_grids(book)))
        self.assertGreaterEqual(len(set(many)), 6)

    def test_one_sign(self):
        book = Book(["q"])
        self.assertEqual([one.is_crossed for one in turnings(book)], [False, True])
        self.assertEqual((like_signs(book), like_pairs(book)), ((("q",),), ()))
        self.assertEqual(len(turnings(Book(["q"], [], 2))), 1)

    def test_without_facts(self):
        """A book without facts is led to itself by all that fit."""
        for many, book in ((48, Book(EIGHT[:4])), (24, Book(EIGHT[:4], [], 3)), (120, Book(EIGHT[:5], [], 2, 3)), (12, Book(ABC, [], 8, 8))):
            self.assertEqual(len(turnings(book)), many)
            self.assertEqual(like_signs(book), (book.signs,))
        self.assertEqual(len(like_pairs(Book(ABC))), 1)
        self.assertEqual(len(like_pairs(Book(ABC, [], 2))), 2)

    def test_groups(self):
        """Turnings that lead go one behind the other, and back."""
        book = Book(EIGHT[:4], sayings_of("row a b", "row c d"))
        found = turnings(book)
        self.assertEqual(len(found), 8)
        for one in found:
            self.assertIn(one.back(), found)
            for other in found:
                self.assertIn(one.then(other), found)
        self.assertEqual(like_signs(book), (tuple(EIGHT[:4]),))

    def test_200_turnings(self):
        """Behind Impossible: more than 200 are not told, but what is like is."""
        for book in (Book(SIX, [], 2, 3), Book(SIX, [], 1), Book(SIX, sayings_of("row a b", "row b c", "row c d", "row d e", "row e f"))):
            self.refuses(TooMany("turnings", 200), turnings, book)
            self.assertEqual(like_signs(book), (book.signs,))
            self.assertEqual([len(group) for group in like_pairs(book)], [15, 15])
        self.assertEqual([len(group) for group in like_pairs(Book(EIGHT[:5], [], 1, 5))], [10, 10])
        self.assertEqual(len(turnings(Book(EIGHT[:5], [], 1, 5))), 120)

    def test_errors(self):
        torn = [Book(ABC, sayings_of("row a b", "column a b")), Book(SIX, [], 2, 2), Book(EIGHT[:1], []).with_sign("b").bounded(1, 1)]
        for call in FOR_ONE:
            for value in NO_BOOKS:
                self.refuses(BadBook("book"), call, value)
            for book in torn:
                self.refuses(Impossible(grid_of(book)), call, book)
            for book in (Book(EIGHT[:7]), Book(EIGHT[:7], [], 1, 1), Book(EIGHT, sayings_of("row a b", "column a b"))):
                self.refuses(TooMany("signs", 6), call, book)
            for book in (Book(EIGHT[:5]), Book(SIX, [], 2, 4)):
                self.refuses(TooMany("grids", 400), call, book)

    def test_400_grids(self):
        """Books that 400 grids keep are asked, those that 401 keep are not."""
        most = Book.read("a b c d e f : 2 4 : not column b d or column b f or column c e or not row a f")
        more = Book.read("a b c d e f : 5 - : column a e or not row b e or not row b f / row d e / column e f or not row b d or row d e"
                         " / row e f / column a e or column a f or column b f or not row b e")
        self.assertEqual((many_grids(most), many_grids(more)), (400, 401))
        for call in FOR_ONE:
            self.refuses(TooMany("grids", 400), call, more)
            self.assertGreater(len(call(most)), 0)
        self.refuses(TooMany("grids", 400), turning_to, more, more)
        self.assertEqual(720 % len(turnings(most)), 0)
        self.assertIs(shows_turning_to(most, most, [("a", "b")], None, turning_to(most, most, [("a", "b")])), True)


class ToAnother(Case):
    def check(self, book, other, kept, others, pairs=(), is_crossed=None):
        fitting = all_turnings(book, other, pairs, is_crossed)
        right = [turning for turning in fitting if does_lead(turning, kept, others)]
        found = turning_to(book, other, pairs, is_crossed)
        self.assertEqual(found, turning_to(is_crossed=is_crossed, pairs=tuple(pairs), other=other, book=book))
        self.assertIs(shows_turning_to(book, other, pairs, is_crossed, found), True)
        if right:
            self.assertEqual((type(found), found.kind, bool(found)), (Led, "led", True))
            self.assertEqual(found.turning, right[0])
            self.assertTrue(is_led(book, other, fitting, found))
            self.assertTrue(leads(found.turning, book, other))
        else:
            self.assertEqual((type(found), found.kind, bool(found)), (Unled, "unled", False))
            self.assertTrue(is_unled(fitting, kept, others, found))
        return bool(right)

    def test_drawn(self):
        found = []
        for book, other, kept, others in drawn_two(3, 150):
            for is_crossed in (None, False, True):
                if all_turnings(book, other, (), is_crossed):
                    found.append(self.check(book, other, kept, others, (), is_crossed))
                else:
                    self.refuses(Misfit("bounds"), turning_to, book, other, [], is_crossed)
        both_sorts(self, found)

    def test_pairs(self):
        draw = random.Random(4)
        found = []
        for book, other, kept, others in drawn_two(5, 150):
            many = draw.randint(1, len(book.signs))
            pairs = [draw.choice((list, tuple))(pair) for pair in zip(draw.sample(book.signs, many), draw.sample(other.signs, many))]
            found.append(self.check(book, other, kept, others, pairs + pairs[:1]))
            first = turning_to(book, other)
            if first:
                self.assertEqual(turning_to(book, other, first.turning.pairs, first.turning.is_crossed).turning, first.turning)
        both_sorts(self, found)

    def test_pairs_that_no_turning_has(self):
        for pairs in ([("a", "x"), ("a", "y")], [("a", "x"), ("b", "x")]):
            self.assertEqual(turning_to(BOOK, OTHER, pairs), Unled((), ()))
            self.assertIs(shows_turning_to(BOOK, OTHER, pairs, None, Unled([], ())), True)
            self.assertIs(shows_turning_to(BOOK, OTHER, pairs, None, turning_to(BOOK, OTHER)), False)

    def test_written_otherwise(self):
        """Whether a turning leads depends on what the books mean, not on how their facts are written."""
        one = Book(ABC, sayings_of("row a b", "row b c"))
        other = Book(ABC, [*sayings_of("row a c", "row b c"), fact_of("row a b", "column a b")])
        self.assertEqual(turning_to(one, other).turning, turning_of(ABC, ABC, False))
        self.assertEqual(turning_to(one, other, [], True).kind, "unled")

    def test_six_signs(self):
        draw = random.Random(6)
        many = 0
        while many < 12:
            book = drawn_book(draw, SIX, 6, (None, 2, 3))
            other = turned_again(draw, turning_of(SIX, draw.sample(EIGHT, 6), False), book)
            if 0 < many_grids(book) <= 400 and 0 < many_grids(other) <= 400:
                many += 1
                for is_crossed in (None, False):
                    self.assertIs(shows_turning_to(book, other, (), is_crossed, turning_to(book, other, (), is_crossed)), True)


class Shown(Case):
    def test_bent(self):
        draw = random.Random(7)
        found = []
        for book, other, kept, others in drawn_two(8, 250):
            fitting = all_turnings(book, other)
            paper = turning_to(book, other)
            pool = [*ODD, *draw.sample(kept, min(2, len(kept))), *draw.sample(others, min(2, len(others))), draw.choice(fitting),
                    *draw.sample(all_grids(book.signs), 2), (("fact", 0),), fitting[0].back()]
            for _ in range(8):
                value = bent_paper(draw, paper, pool)
                right = is_led(book, other, fitting, value) if type(value) is Led else is_unled(fitting, kept, others, value)
                found.append(right)
                self.assertIs(shows_turning_to(value=value, is_crossed=None, pairs=[], other=other, book=book), right,
                              (str(book), str(other), value.parts))
        both_sorts(self, found)

    def test_any_turning(self):
        """A Led of any turning that leads, with the pairs and the crossing that are told."""
        for book, other, kept, others in drawn_two(9, 40, 3):
            for turning in all_turnings(book, other):
                shown = leads(turning, book, other)
                if type(shown) is not Leads:
                    continue
                value = Led(turning, shown.trees, shown.back)
                self.assertIs(shows_turning_to(book, other, (), None, value), True)
                self.assertIs(shows_turning_to(book, other, turning.pairs, turning.is_crossed, value), True)
                if all_turnings(book, other, (), not turning.is_crossed):
                    self.assertIs(shows_turning_to(book, other, (), not turning.is_crossed, value), False)
                names = dict(turning.pairs)
                wrong = [("a", name) for name in other.signs if name != names["a"]]
                self.assertIs(shows_turning_to(book, other, wrong[:1], None, value), len(wrong) == 0)

    def test_other_values(self):
        right = turning_to(BOOK, OTHER)
        for value in (None, SAME, right.turning, Paper("led", *right.parts), Denial("unled", (), ()), leads(OVER, BOOK, OTHER), Kept(1),
                      Led(SWAP, right.trees, right.back), Led(OVER.pairs, right.trees, right.back), Led(OVER, right.back, right.trees),
                      Led(OVER, None, right.back), Unled((), ()), Unled(None, ()), Unled((), [None]), Unled([SAME], ())):
            self.assertIs(shows_turning_to(BOOK, OTHER, (), None, value), False)
        self.assertIs(shows_turning_to(BOOK, OTHER, [("a", "y"), ["c", "x"]], True, right), True)
        self.assertIs(shows_turning_to(BOOK, OTHER, [("a", "z")], True, right), False)

    def test_no_bound_of_grids(self):
        """Papers of books that more than 400 grids keep, or none, are read."""
        six = Book(SIX, sayings_of("row a b"))
        other = Book(SIX, sayings_of("column c d"))
        tree = [["apart", "column", "c", "d"]], [["apart", "row", "a", "b"]]
        turning = turning_of(SIX, ["c", "d", "a", "b", "e", "f"], True)
        self.assertIs(shows_turning_to(six, other, [], None, Led(turning, [tree[0]], [tree[1]])), True)
        self.assertIs(shows_turning_to(six, other, [], None, Led(turning, [tree[1]], [tree[0]])), False)
        free = Book(SIX)
        grid = kept_grids(Book(SIX, sayings_of("column a b", "column b c", "column c d", "column d e", "column e f")))[0]
        self.assertIs(shows_turning_to(free, six, [], False, Unled([grid], [])), True)
        self.assertIs(shows_turning_to(free, six, [], True, Unled([grid], [])), False)
        torn = Book(ABC, sayings_of("row a b", "column a b"))
        self.assertIs(shows_turning_to(torn, torn, [], None, Unled([], [])), False)


class Errors(Case):
    def test_order(self):
        right = {"book": BOOK, "other": OTHER, "pairs": [("a", "y")], "is_crossed": None}
        faults = [(BadBook("book"), {"book": 0}), (BadBook("other"), {"other": None}), (BadTurning("pairs"), {"pairs": None}),
                  (BadTurning("is_crossed"), {"is_crossed": 0})]
        for call, told in ((turning_to, right), (shows_turning_to, {**right, "value": None})):
            self.refuses_in_order(call, told, faults)
            for error, other in ((Misfit("signs"), Book(["y", "z"])), (Misfit("bounds"), OTHER.bounded(2, 3))):
                self.refuses_in_order(call, told, [faults[0], *faults[2:], (error, {"other": other})])
            self.refuses(Misfit("signs"), call, **{**told, "other": Book(["y", "z"], [], 2, 3)})
            for value in NO_BOOKS:
                self.refuses(BadBook("book"), call, **{**told, "book": value})
                self.refuses(BadBook("other"), call, **{**told, "other": value})
            for value in NO_LISTS + [[None], ["ay"], [("a",)], [("a", "y", "z")], [("y", "a")], [("a", "a")], [("x", "x")], [("a", "y"), ("q", "y")],
                                     [(SAME, "y")], [("a", SAME)], [SAME], [(["a"], "y")], [{"a": "y"}], [("a", 0)]]:
                self.refuses(BadTurning("pairs"), call, **{**told, "pairs": value})
            for value in (0, 1, "True", [], SAME, (None,)):
                self.refuses(BadTurning("is_crossed"), call, **{**told, "is_crossed": value})
        self.assertEqual(turning_to(BOOK, OTHER), turning_to(BOOK, OTHER, (), None))

    def test_bounds(self):
        for bounds, others, fits in (((2, 3), (2, 3), (True, False)), ((2, 3), (3, 2), (False, True)), ((2, 2), (2, 2), (True, True)),
                                     ((None, 2), (2, None), (False, True)), ((2, 3), (2, 2), (False, False)), ((8, None), (None, None), (False, False))):
            one, other = BOOK.bounded(*bounds), OTHER.bounded(*others)
            for call, more in ((turning_to, ()), (shows_turning_to, (None,))):
                for is_crossed, does_fit in ((False, fits[0]), (True, fits[1]), (None, any(fits))):
                    if does_fit:
                        call(one, other, (), is_crossed, *more)
                    else:
                        self.refuses(Misfit("bounds"), call, one, other, (), is_crossed, *more)

    def test_last(self):
        seven, crowd = Book(EIGHT[:7]), Book(EIGHT[:5])
        torn = [Book(EIGHT[:5], sayings_of("row a b", "column a b")), Book(EIGHT[:5], sayings_of("row b c", "not row b c"))]
        for call, more in ((turning_to, ()), (shows_turning_to, (None,))):
            self.refuses(TooMany("signs", 6), call, seven, seven, (), None, *more)
            self.refuses(Misfit("signs"), call, seven, crowd, (), None, *more)
        for one, other in ((crowd, torn[0]), (torn[0], crowd), (crowd, crowd)):
            self.refuses(TooMany("grids", 400), turning_to, one, other)
        self.refuses(Impossible(grid_of(torn[0])), turning_to, *torn)
        self.refuses(Impossible(grid_of(torn[1])), turning_to, *torn[::-1])
        small = Book(EIGHT[:5], [], 1)
        self.refuses(Misfit("bounds"), turning_to, small, torn[1])
        self.refuses(Impossible(grid_of(torn[1].bounded(1, None))), turning_to, small, torn[1].bounded(1, None))


if __name__ == "__main__":
    unittest.main()
