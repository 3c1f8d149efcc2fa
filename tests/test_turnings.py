"""Turnings: what they make, and which lead one book to another: beside a plain listing of all grids."""

import itertools
import random
import unittest

from bending import ODD, bent_paper, both_sorts, is_any_tree, is_grid_in, is_row
from mutesigns.books import Book
from mutesigns.check_turnings import shows_leads
from mutesigns.errors import BadBook, BadTurning, Impossible, Misfit, NoSign, TooMany, Twice
from mutesigns.facts import Fact
from mutesigns.grids import Grid
from mutesigns.listing import grids
from mutesigns.papers import Denial, Paper
from mutesigns.possible import Kept, grid_of
from mutesigns.sayings import Saying
from mutesigns.sheets import Sheet
from mutesigns.turnings import Astray, Leads, Turning, leads
from oracles import drawn_book, drawn_sayings, kept_grids
from support import NO_NAMES, SAME, Case
from test_beside import drawn_grid
from test_books import EIGHT
from test_facts import fact_of, sayings_of
from test_grids import all_grids
from test_listing import NO_BOOKS

ABC = ["a", "b", "c"]
XYZ = ["x", "y", "z"]
BOOK = Book(ABC, sayings_of("row a b"))
SWAP = Turning({"b": "a", "a": "b", "c": "c"})
OTHER = Book(XYZ, sayings_of("column y z", "not row y z"))
OVER = Turning({"a": "y", "b": "z", "c": "x"}, True)
NO_TURNINGS = [None, 0, {"a": "a"}, [("a", "a")], SAME, BOOK, True]
NO_TRUTHS = [None, 0, 1, "True", [], [True], SAME]


def turning_of(signs, names, is_crossed):
    return Turning(dict(zip(signs, names)), is_crossed)


def drawn_turning(draw, signs, names=None):
    """A turning of these signs to these names, or to some of eight."""
    names = draw.sample(EIGHT, len(signs)) if names is None else draw.sample(names, len(names))
    return turning_of(signs, names, draw.choice((True, False)))


def grid_made(turning, grid):
    """What a turning makes of a grid, told plainly."""
    names = dict(turning.pairs)
    places = zip(grid.columns, grid.rows) if turning.is_crossed else zip(grid.rows, grid.columns)
    return Grid.of([names[sign] for sign in grid.signs], list(places))


def saying_made(turning, saying):
    """What a turning makes of a saying, told plainly."""
    names = dict(turning.pairs)
    side = saying.side if not turning.is_crossed else {"row": "column", "column": "row"}[saying.side]
    return Saying(side, names[saying.one], names[saying.other], saying.alike)


def does_lead(turning, kept, others):
    """Whether a turning that fits makes of these grids just the others."""
    return {str(grid_made(turning, grid)) for grid in kept} == {str(grid) for grid in others}


def is_leads(turning, book, other, kept, others, value):
    """Whether it is a right Leads or Astray, told plainly."""
    if type(value) is Astray:
        if value.is_back is True:
            return is_grid_in(value.grid, others) and not is_grid_in(grid_made(turning.back(), value.grid), kept)
        return value.is_back is False and is_grid_in(value.grid, kept) and not is_grid_in(grid_made(turning, value.grid), others)
    if type(value) is not Leads:
        return False
    return are_led(turning, book, other, value.trees) and are_led(turning.back(), other, book, value.back)


def are_led(turning, book, other, trees):
    """Whether these are right trees of the other book, one for each fact of the book."""
    return is_row(trees, len(book.facts)) and all(
        is_any_tree(other, [saying_made(turning, saying).contrary() for saying in fact.sayings], tree)
        for fact, tree in zip(book.facts, trees))


def turned_again(draw, turning, book):
    """The book that a turning makes, its facts in another order, perhaps with one more or one fewer."""
    made = turning.made(book)
    facts = list(made.facts)
    draw.shuffle(facts)
    way = draw.choice(("same", "same", "more", "fewer", "sure"))
    if way == "fewer" and facts:
        facts.pop()
    if way == "more" and len(facts) < 8:
        facts.append(drawn_sayings(draw, made.signs, 1)[0])
    if way == "sure" and facts and len(facts[0]) < 4 and len(facts) < 8:
        facts.append(facts[0])
    return Book(made.signs, facts, made.most_rows, made.most_columns)


def drawn_turned(seed, count, most=4):
    """Turnings that fit two books that some grid keeps, these, and the grids that keep them."""
    draw = random.Random(seed)
    found = []
    while len(found) < count:
        book = drawn_book(draw, EIGHT[:draw.randint(2, most)], 4, (None, None, 2, 3))
        turning = drawn_turning(draw, book.signs)
        other = turned_again(draw, turning, book)
        if grid_of(book) and grid_of(other):
            found.append((turning, book, other, kept_grids(book), kept_grids(other)))
    return found


class Values(Case):
    def test_attributes(self):
        names = {"b": "x", "a": "y1"}
        turning = Turning(names)
        names["a"] = "z"
        self.assertEqual((turning.pairs, turning.is_crossed), ((("a", "y1"), ("b", "x")), False))
        turning = Turning(is_crossed=True, names={"q": "q"})
        self.assertEqual((turning.pairs, turning.is_crossed), ((("q", "q"),), True))

    def test_equal(self):
        self.assertTrue(Turning({"b": "a", "c": "c", "a": "b"}) == SWAP)
        for other in (Turning({"b": "a", "a": "b", "c": "c"}, True), Turning({"a": "a", "b": "b", "c": "c"}), Turning({"b": "a", "a": "b"}),
                      SWAP.pairs, None, SAME):
            self.assertTrue(SWAP != other)
            self.assertFalse(SWAP == other)

    def test_errors(self):
        right = {"names": {"a": "b"}, "is_crossed": False}
        names = {**{sign: sign for sign in EIGHT}, "i": "i"}
        self.refuses_in_order(Turning, right, [(BadTurning("names"), {"names": {}}), (BadTurning("is_crossed"), {"is_crossed": 1})])
        self.refuses_in_order(Turning, right, [(Twice("q"), {"names": {**names, "b": "q", "c": "q"}}), (BadTurning("is_crossed"), {"is_crossed": 1})])
        self.refuses_in_order(Turning, right, [(BadTurning("is_crossed"), {"is_crossed": None}), (TooMany("signs", 8), {"names": names})])
        for value in (None, 0, "ab", [("a", "b")], [], {}, True, SAME, *[{"a": name} for name in NO_NAMES],
                      *[{"a": "b", name: "c"} for name in NO_NAMES if not isinstance(name, list) and name is not SAME],
                      {"a": "b", "b": "b", "c": None}):
            self.refuses(BadTurning("names"), Turning, value, None)
        for value in NO_TRUTHS:
            self.refuses(BadTurning("is_crossed"), Turning, {"a": "b"}, value)
        self.refuses(Twice("y"), Turning, {"d": "x", "c": "y", "b": "y", "a": "x", "e": "y"})
        self.refuses(Twice("x"), Turning, {"d": "x", "b": "x", "a": "y", "e": "y"})
        self.refuses(TooMany("signs", 8), Turning, names)
        self.assertEqual(len(Turning({sign: sign for sign in EIGHT}).pairs), 8)


class Made(Case):
    def test_each_class(self):
        draw = random.Random(1)
        for _ in range(80):
            signs = EIGHT[:draw.randint(2, 6)]
            turning = drawn_turning(draw, signs)
            book, grid = drawn_book(draw, signs), drawn_grid(draw, len(signs))
            for fact in book.facts:
                self.assertEqual(turning.made(fact), Fact([saying_made(turning, saying) for saying in fact.sayings]))
                self.assertEqual(turning.made(fact.sayings[0]), saying_made(turning, fact.sayings[0]))
            made = turning.made(value=book)
            bounds = (book.most_rows, book.most_columns)
            self.assertEqual(made, Book([name for _, name in turning.pairs], [turning.made(fact) for fact in book.facts],
                                        *(bounds[::-1] if turning.is_crossed else bounds)))
            self.assertEqual(turning.made(grid), grid_made(turning, grid))
            self.assertEqual(turning.made(grid).keeps(made), grid.keeps(book))
            for value in (book, grid, *book.facts[:1]):
                self.assertEqual(turning.back().made(turning.made(value)), value)

    def test_names_of_others(self):
        """A turning may name other signs, too."""
        turning = Turning({"a": "b", "b": "c", "c": "x", "d": "a"}, True)
        self.assertEqual(str(turning.made(Saying("row", "a", "d"))), "column a b")
        self.assertEqual(str(turning.made(fact_of("row a b", "not column a d"))), "column b c or not row a b")
        self.assertEqual(str(turning.made(Book(["a", "d"], sayings_of("row a d"), 1, 2))), "a b : 2 1 : column a b")
        self.assertEqual(str(turning.made(Grid(["a", "d"], [0, 0], [0, 1]))), "a b : 0 1 : 0 0")

    def test_back_and_then(self):
        draw = random.Random(2)
        for _ in range(60):
            signs = EIGHT[:draw.randint(1, 8)]
            one = drawn_turning(draw, signs, EIGHT[:len(signs)] if len(signs) == 8 else None)
            other = drawn_turning(draw, EIGHT, EIGHT)
            there, back = dict(one.pairs), one.back()
            self.assertEqual((dict(back.pairs), back.is_crossed), ({name: sign for sign, name in there.items()}, one.is_crossed))
            both = one.then(other=other)
            self.assertEqual(both.pairs, tuple((sign, dict(other.pairs)[name]) for sign, name in one.pairs))
            self.assertIs(both.is_crossed, one.is_crossed != other.is_crossed)
            self.assertEqual(one.then(back), turning_of(signs, signs, False))
            grid = Grid(signs, list(range(len(signs))), [0] * len(signs))
            self.assertEqual(both.made(grid), other.made(one.made(grid)))

    def test_errors(self):
        for value in (None, 0, "row a b", [Saying("row", "a", "b")], SAME, SWAP, Sheet(["s"], ["e"], [[["a"]]]), Kept(1)):
            self.refuses(BadTurning("value"), SWAP.made, value)
        for value, sign in ((Saying("row", "d", "a"), "d"), (Saying("row", "e", "d"), "d"), (fact_of("row f g", "row e g", "row a b"), "e"),
                            (Book(["g", "a", "f"]), "f"), (Grid(["a", "e", "h"], [0, 0, 0], [0, 1, 2]), "e")):
            self.refuses(NoSign(sign), SWAP.made, value)
        for value in NO_TURNINGS:
            self.refuses(BadTurning("other"), SWAP.then, value)
        turning = Turning({"c": "p", "b": "q", "a": "a"})
        self.refuses(NoSign("q"), turning.then, Turning({"a": "a", "b": "b"}))
        self.refuses(NoSign("p"), turning.then, Turning({"a": "a", "q": "b"}))


class LeadsBooks(Case):
    def check(self, turning, book, other, kept, others):
        found = leads(turning, book, other)
        self.assertEqual(found, leads(other=other, book=book, turning=turning))
        self.assertIs(shows_leads(turning, book, other, found), True)
        right = does_lead(turning, kept, others)
        self.assertEqual((type(found), found.kind, bool(found)), (Leads, "leads", True) if right else (Astray, "astray", False))
        self.assertTrue(is_leads(turning, book, other, kept, others, found))
        return None if right else found.is_back

    def test_drawn(self):
        found = [self.check(*one) for one in drawn_turned(3, 300)]
        self.assertTrue(all(found.count(kind) > 15 for kind in (None, True, False)), [found.count(kind) for kind in (None, True, False)])

    def test_any_turning(self):
        """All turnings of books to themselves, straight and crossed."""
        draw = random.Random(4)
        found = []
        for _ in range(25):
            book = drawn_book(draw, ABC, 3, (None, 2))
            kept = kept_grids(book)
            for names in itertools.permutations(ABC):
                for is_crossed in (False, True) if book.most_rows == book.most_columns else (False,):
                    if kept:
                        turning = turning_of(ABC, names, is_crossed)
                        found.append(self.check(turning, book, book, kept, kept) is None)
        both_sorts(self, found)

    def test_facts(self):
        """Turnings that lead do so one behind the other, and back."""
        for turning, book, other, kept, others in drawn_turned(5, 60):
            if leads(turning, book, other):
                self.assertTrue(leads(turning.back(), other, book))
                self.assertTrue(leads(turning.then(turning.back()), book, book))
                self.assertEqual(len(kept), len(others))
        for bounds, is_crossed in (((2, 3), False), ((2, 2), True), ((None, None), True)):
            free = Book(ABC, [], *bounds)
            self.assertTrue(leads(turning_of(ABC, ["c", "a", "b"], is_crossed), free, free))

    def test_bounds_as_told(self):
        """Whether a turning fits depends on the bounds as told: a bound of 8 and none are unlike."""
        self.refuses(Misfit("bounds"), leads, SWAP, BOOK, BOOK.bounded(8, None))
        self.refuses(Misfit("bounds"), shows_leads, SWAP, BOOK, BOOK.bounded(8, None), None)

    def test_bent(self):
        draw = random.Random(6)
        found = []
        for turning, book, other, kept, others in drawn_turned(7, 250):
            paper = leads(turning, book, other)
            pool = [*ODD, *draw.sample(kept, min(2, len(kept))), *draw.sample(others, min(2, len(others))),
                    *draw.sample(all_grids(book.signs), 2), (("fact", 0),), (("place", "a", "b"),)]
            for _ in range(8):
                value = bent_paper(draw, paper, pool)
                found.append(is_leads(turning, book, other, kept, others, value))
                self.assertIs(shows_leads(value=value, other=other, book=book, turning=turning), found[-1],
                              (str(book), str(other), turning.pairs, value.parts))
        both_sorts(self, found)

    def test_any_astray(self):
        for turning, book, other, kept, others in drawn_turned(8, 40, 3):
            for grid in all_grids(book.signs) + all_grids(other.signs):
                for is_back in (True, False, 1, 0, None):
                    value = Astray(grid, is_back)
                    self.assertIs(shows_leads(turning, book, other, value), is_leads(turning, book, other, kept, others, value))

    def test_other_values(self):
        right = leads(OVER, BOOK, OTHER)
        self.assertIs(shows_leads(OVER, BOOK, OTHER, right), True)
        for value in (None, SAME, right.parts, Paper("leads", *right.parts), Denial("leads", *right.parts), Leads(*right.parts[::-1]),
                      Leads(None, right.back), Leads(right.trees, ()), Kept(kept_grids(BOOK)[0]), Astray(None, False), Astray(SAME, True)):
            self.assertIs(shows_leads(OVER, BOOK, OTHER, value), False)

    def test_checks_of_large_and_torn_books(self):
        """shows_leads raises no TooMany, and no Impossible."""
        eight = Book(EIGHT, sayings_of("row a b"), 8)
        same = turning_of(EIGHT, EIGHT, False)
        tree = [["apart", "row", "a", "b"]]
        self.assertIs(shows_leads(same, eight, eight, Leads([tree], [tree])), True)
        grid = Grid(EIGHT, [0, 0, 1, 2, 3, 4, 5, 6], [0, 1, 2, 3, 4, 5, 6, 7])
        turned = turning_of(EIGHT, [*EIGHT[1:], "a"], False)
        self.assertIs(shows_leads(turned, eight, eight, Astray(grid, False)), True)
        self.assertIs(shows_leads(same, eight, eight, Astray(grid, False)), False)
        torn = Book(ABC, sayings_of("row a b", "column a b"))
        place = [["place", "a", "b"]]
        self.assertIs(shows_leads(SWAP, torn, torn, Leads([place] * 2, [place] * 2)), True)
        self.assertIs(shows_leads(SWAP, torn, torn, None), False)


class Errors(Case):
    def test_order(self):
        right = {"turning": SWAP, "book": BOOK, "other": BOOK}
        torn = Book(ABC, sayings_of("row a b", "column a b"))
        faults = [(BadTurning("turning"), {"turning": None}), (BadBook("book"), {"book": 0}), (BadBook("other"), {"other": "b"})]
        for call, told in ((leads, right), (shows_leads, {**right, "value": None})):
            self.refuses_in_order(call, told, faults)
            self.refuses_in_order(call, told, [faults[0], faults[1], (Misfit("signs"), {"other": OTHER})])
            self.refuses_in_order(call, told, [faults[0], faults[1], (Misfit("bounds"), {"other": BOOK.bounded(2, None)})])
            self.refuses_in_order(call, told, [(Misfit("signs"), {"turning": OVER}), (Misfit("bounds"), {"other": BOOK.bounded(2, None)})])
            for value in NO_TURNINGS:
                self.refuses(BadTurning("turning"), call, **{**told, "turning": value})
            for value in NO_BOOKS:
                self.refuses(BadBook("book"), call, **{**told, "book": value})
                self.refuses(BadBook("other"), call, **{**told, "other": value})
            for turning in (Turning({"a": "a", "b": "b"}), Turning({**dict(SWAP.pairs), "d": "d"}), Turning({"a": "a", "b": "b", "c": "d"}),
                            Turning({"a": "a", "b": "b", "d": "c"})):
                self.refuses(Misfit("signs"), call, **{**told, "turning": turning})
            self.refuses(Misfit("bounds"), call, **{**told, "book": BOOK.bounded(2, 3), "other": BOOK.bounded(3, 2)})
            crossed = Turning(dict(SWAP.pairs), True)
            self.refuses(Misfit("bounds"), call, **{**told, "turning": crossed, "book": BOOK.bounded(2, 3), "other": BOOK.bounded(2, 3)})
            call(**{**told, "turning": crossed, "book": BOOK.bounded(2, 3), "other": BOOK.bounded(3, 2)})
        self.refuses_in_order(leads, right, [(Misfit("signs"), {"turning": OVER}), (Impossible(grid_of(torn)), {"book": torn})])

    def test_last(self):
        torn = [Book(ABC, sayings_of("row a b", "column a b")), Book(ABC, sayings_of("row b c", "not row b c"))]
        self.refuses(Impossible(grid_of(torn[0])), leads, SWAP, torn[0], torn[1])
        self.refuses(Impossible(grid_of(torn[1])), leads, SWAP, BOOK, torn[1])
        seven = EIGHT[:7]
        for facts in ((), sayings_of("row a b", "column a b")):
            for bounds in ((), (1, 1)):
                book = Book(seven, facts, *bounds)
                self.refuses(TooMany("signs", 6), leads, turning_of(seven, seven, False), book, book)
        six = Book(EIGHT[:6])
        self.assertTrue(leads(turning_of(EIGHT[:6], EIGHT[1:6] + ["a"], True), six, six))
        self.assertEqual(len(grids(BOOK)), len(kept_grids(BOOK)))


if __name__ == "__main__":
    unittest.main()
