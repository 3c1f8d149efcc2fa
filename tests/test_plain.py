"""Plain books: the finest grid, what is sure by joins and partings alone; papers of chains, partings, plain books."""

import itertools
import random
import unittest

from mutesigns.books import Book
from mutesigns.check_plain import shows_chain, shows_parting, shows_plain
from mutesigns.errors import BadBook, BadSaying, BadSide, Impossible, NoSign
from mutesigns.grids import Grid
from mutesigns.joins import Chain, NoChain, chain_of
from mutesigns.papers import Denial, Paper
from mutesigns.partings import Parting, parting_of
from mutesigns.plain import Broken, Finest, finest, word_in
from mutesigns.sayings import Saying
from oracles import SIDES, Seen, drawn_sayings, kept_grids
from support import NO_LISTS, NO_SIDES, SAME, Case
from test_books import EIGHT
from test_facts import fact_of, sayings_of
from test_standing import chains, partings, told_of

ABC = ["a", "b", "c"]
ABCD = ["a", "b", "c", "d"]
NOT_PLAIN = [Book(ABC, [], 8), Book(ABC, [], None, 8), Book(ABC, [fact_of("row a b", "not row a b")])]


def drawn_plain_books(seed, many, most_signs):
    draw = random.Random(seed)
    books = []
    for _ in range(many):
        signs = EIGHT[:draw.randint(2, most_signs)]
        books.append(Book(signs, drawn_sayings(draw, signs, draw.randint(0, 12))))
    return books


class Plain(Case):
    def test_finest(self):
        book = Book(["d", "c", "b", "a"], sayings_of("row b d", "column a b", "not row a c"))
        self.assertEqual(finest(book), Finest(Grid(ABCD, (0, 1, 2, 1), (0, 0, 1, 2))))
        self.assertEqual(finest(book=Book(["q"])), Finest(Grid(["q"], (0,), (0,))))
        self.assertEqual(finest(Book(["q"])).kind, "finest")

    def test_broken(self):
        book = Book(ABC, sayings_of("row a b", "not row a b", "column a b", "not row a c"))
        self.assertEqual(finest(book), Broken(("place", "a", "b")))
        self.assertEqual(finest(book.without([2])).broken, ("apart", "row", "a", "b"))
        self.assertEqual((finest(book).kind, bool(finest(book)), bool(finest(Book(ABC)))), ("broken", False, True))

    def test_words(self):
        book = Book(ABCD, sayings_of("row a b", "row b c", "column a d"))
        self.assertEqual(word_in(book, "row", "a", "c"), "sure")
        self.assertEqual(word_in(book, "row", "d", "c"), "never")
        self.assertEqual(word_in(other="d", one="b", side="column", book=book), "never")
        self.assertEqual(word_in(book.without([0]), "column", "b", "d"), "open")
        for side, sign in itertools.product(SIDES, ABCD):
            self.assertEqual(word_in(book, side, sign, sign), "sure")

    def test_books_of_one_to_eight_signs(self):
        for book in drawn_plain_books(1, 300, 8) + [Book(["a"])]:
            breaks = Seen(book, []).breaks()
            found = finest(book)
            if breaks:
                self.assertEqual(found, Broken(breaks[0]))
                self.refuses(Impossible(Broken(breaks[0])), word_in, book, "row", "a", "a")
                continue
            self.assertTrue(found.grid.keeps(book))
            seen = Seen(book, [])
            for side, one, other in itertools.product(SIDES, book.signs, book.signs):
                is_joined = (one, other) in seen.joined[side]
                self.assertEqual(found.grid.are_alike(side, one, other), is_joined)
                word = "sure" if is_joined else "never" if (side, one, other) in seen.parted else "open"
                self.assertEqual(word_in(book, side, one, other), word)

    def test_over_all_grids(self):
        for book in drawn_plain_books(2, 60, 4) + [Book(ABC, told) for told in told_of(ABC, 7)]:
            grids = kept_grids(book)
            self.assertEqual(bool(finest(book)), len(grids) > 0)
            for side, one, other in itertools.product(SIDES if grids else (), book.signs, book.signs):
                held = {grid.are_alike(side, one, other) for grid in grids}
                word = {(True,): "sure", (False,): "never"}.get(tuple(held), "open")
                self.assertEqual(word_in(book, side, one, other), word)

    def test_errors(self):
        for value in (None, 0, "a : - - : -", ["a"], Saying("row", "a", "b")):
            self.refuses(BadBook("book"), finest, value)
            self.refuses(BadBook("book"), word_in, value, "row", "a", "b")
            for paper in (None, Finest(1), Broken(("fact", 0))):
                self.refuses(BadBook("book"), shows_plain, value, paper)
        for book in NOT_PLAIN:
            self.refuses(BadBook("plain"), finest, book)
            self.refuses(BadBook("plain"), word_in, book, "row", "a", "b")
            for paper in (None, Finest(1), Broken(("fact", 0))):
                self.refuses(BadBook("plain"), shows_plain, book, paper)
        self.refuses(Impossible(Broken(["apart", "row", "a", "b"])), word_in,
                     Book(ABC, sayings_of("not row a b", "row a b")), "column", "a", "c")

    def test_order(self):
        right = {"book": Book(ABC, sayings_of("row a b")), "side": "row", "one": "a", "other": "c"}
        torn = Book(ABC, sayings_of("row a b", "column a b"))
        self.refuses_in_order(word_in, right, [
            (BadBook("book"), {"book": None}), (BadSide("side"), {"side": "rows"}), (NoSign("x"), {"one": "x"}),
            (NoSign(None), {"other": None}), (Impossible(Broken(("place", "a", "b"))), {"book": torn})])
        self.refuses_in_order(word_in, right, [
            (BadBook("plain"), {"book": NOT_PLAIN[0]}), (BadSide("side"), {"side": ["row"]}),
            (NoSign(["a"]), {"one": ["a"]}), (NoSign("d"), {"other": "d"})])
        for value in NO_SIDES:
            self.refuses(BadSide("side"), word_in, right["book"], value, "a", "b")
        for value in (None, "d", "", 0, True, ["a"], ("a", "b"), SAME):
            self.refuses(NoSign(value), word_in, right["book"], "row", value, value)


class ShowsChain(Case):
    def setUp(self):
        self.book = Book(["a", "b", "c", "d", "e"], sayings_of("row a b", "row c d", "column a c", "not row b e"))
        self.more = sayings_of("row b c")

    def shows(self, one, other, value, side="row"):
        return shows_chain(self.book, self.more, side, one, other, value)

    def test_right_chains(self):
        for walk in (["a", "b", "c", "d"], ["a", "b", "a", "b", "c", "d"], ("a", "b", "c", "d", "c", "d")):
            self.assertIs(self.shows("a", "d", Chain(walk)), True)
        for walk in (["a"], ["a", "b", "a"]):
            self.assertIs(self.shows("a", "a", Chain(walk)), True)
        self.assertIs(self.shows("c", "a", Chain(["c", "a"]), "column"), True)
        self.assertIs(shows_chain(value=Chain(["a"]), other="a", one="a", side="row", sayings=(), book=self.book), True)

    def test_no_chains(self):
        for walk in (["a", "b", "c"], ["b", "c", "d"], ["d", "c", "b", "a"], ["a", "d"], ["a", "a", "b", "c", "d"],
                     ["a", "b", "c", "d", "d"], [], ["a", "b", "x", "d"], ["a", "b", None, "d"], ["a", "b", ["c"], "d"],
                     ["a", "b", SAME, "d"], "abcd", None, 0, {"a": 1}, {"a", "b", "c", "d"}, ["d"], ["a"], [["a", "b"]],
                     ["a", "c", "d"], ["a", "b", "c", "e", "d"]):
            self.assertIs(self.shows("a", "d", Chain(walk)), False, walk)
        self.assertIs(self.shows("b", "e", Chain(["b", "e"])), False)
        self.assertIs(self.shows("a", "a", Chain(["a", "a"])), False)
        self.assertIs(self.shows("a", "a", Chain([])), False)
        self.assertIs(self.shows("a", "b", Chain(["a", "b"]), "column"), False)

    def test_right_lots(self):
        for lot in (["a", "b", "c", "d"], ["d", "b", "a", "c"], ("a", "b", "c", "d", "a")):
            self.assertIs(self.shows("a", "e", NoChain(lot)), True)
        self.assertIs(self.shows("e", "c", NoChain(["e", "e"])), True)
        self.assertIs(self.shows("b", "a", NoChain(["b", "d", "e"]), "column"), True)
        self.assertIs(self.shows("a", "b", NoChain(["c", "a"]), "column"), True)
        self.assertIs(shows_chain(self.book, [], "row", "a", "d", NoChain(["e", "a", "b"])), True)

    def test_no_lots(self):
        for lot in (["a", "b", "c", "d", "e"], ["b"], ["a"], ["a", "b", "c"], ["e"], [], ["a", "b", "c", "d", "x"],
                    ["a", "b", "c", "d", None], ["a", "b", "c", "d", SAME], "abcd", None, SAME, [["a", "b", "c", "d"]],
                    {"a": 1, "b": 1, "c": 1, "d": 1}):
            self.assertIs(self.shows("a", "e", NoChain(lot)), False, lot)
        self.assertIs(self.shows("a", "a", NoChain(["a", "b", "c", "d"])), False)
        self.assertIs(self.shows("a", "d", NoChain(["a", "b"])), False)

    def test_other_values(self):
        for value in (None, True, ("a", "b", "c", "d"), ["a", "b", "c", "d"], Paper("chain", ["a", "b", "c", "d"]),
                      Denial("nochain", ["a", "b", "c", "d"]), Parting("a", "e", "apart"), SAME, Broken(["a"])):
            for other in ("d", "e"):
                self.assertIs(self.shows("a", other, value), False)

    def test_all_of_three_signs(self):
        draw = random.Random(3)
        for told in told_of(ABC, 11):
            for side, one, other in itertools.product(SIDES, ABC, ABC):
                found = chain_of(Book(ABC, told[::2]), told[1::2], side, one, other)
                self.assertTrue(shows_chain(Book(ABC, told[::2]), told[1::2], side, one, other, found))
                walk = [draw.choice(ABC) for _ in range(draw.randint(1, 4))]
                steps = list(zip(walk, walk[1:]))
                is_chain = (walk[0], walk[-1]) == (one, other) and all(
                    step[0] != step[1] and Saying(side, *step) in told for step in steps)
                self.assertIs(shows_chain(Book(ABC), told, side, one, other, Chain(walk)), is_chain)
                is_closed = one in walk and other not in walk and not any(
                    saying.side == side and saying.alike and (saying.one in walk) != (saying.other in walk)
                    for saying in told)
                self.assertIs(shows_chain(Book(ABC), told, side, one, other, NoChain(walk)), is_closed)
                ways = chains(ABC, told, side, one, other)
                self.assertFalse(ways and is_closed)


class ShowsParting(Case):
    def test_all_of_three_signs(self):
        for told in told_of(ABC, 13):
            book, more = Book(ABC, told[1::2]), told[::2]
            for side, one, other in itertools.product(SIDES, ABC, ABC):
                right = partings(ABC, told, side, one, other)
                for parts in itertools.product(ABC, ABC, ("apart", "joined")):
                    self.assertIs(shows_parting(book, more, side, one, other, Parting(*parts)), parts in right)
                self.assertIs(shows_parting(book, more, side, one, other, None), not right)
                self.assertIs(shows_parting(book, more, side, one, other, parting_of(book, more, side, one, other)), True)

    def test_wrong(self):
        book = Book(ABCD, sayings_of("row a b", "row c d", "not row b c", "column a d"))
        right = [("a", "d", "joined"), ("b", "c", "apart")]
        for parts in right:
            self.assertIs(shows_parting(book, [], "row", "a", "c", Parting(*parts)), True)
            self.assertIs(shows_parting(book, (), "row", "a", "c", Parting(*parts[1::-1], parts[2])), False)
            self.assertIs(shows_parting(book, [], "row", "a", "b", Parting(*parts)), False)
            self.assertIs(shows_parting(book, [], "column", "a", "c", Parting(*parts)), False)
            for at, wrong in itertools.product(range(3), ("x", None, SAME, ["a"], "alike", "", 0, ("b",))):
                bent = [*parts[:at], wrong, *parts[at + 1:]]
                self.assertIs(shows_parting(book, [], "row", "a", "c", Parting(*bent)), False, bent)
        for value in (None, True, False, ("b", "c", "apart"), Paper("parting", "b", "c", "apart"), Chain(["a"]), SAME):
            self.assertIs(shows_parting(book, [], "row", "a", "c", value), False)
        for value in (False, (), Paper("parting", "b", "c", "apart"), SAME, 0):
            self.assertIs(shows_parting(book, [], "row", "a", "b", value), False)
        self.assertIs(shows_parting(value=None, other="b", one="a", side="row", sayings=[], book=book), True)
        self.assertIs(shows_parting(book, [], "row", "a", "a", None), True)


class ShowsPlain(Case):
    def test_right(self):
        for book in drawn_plain_books(4, 60, 8):
            self.assertIs(shows_plain(book, finest(book)), True)
            for broken in Seen(book, []).breaks():
                self.assertIs(shows_plain(book, Broken(broken)), True)
                self.assertIs(shows_plain(value=Broken(list(broken)), book=book), True)

    def test_bent(self):
        book = Book(ABC, sayings_of("row a b"))
        grid = finest(book).grid
        for value in (Finest(grid.crossed()), Finest(Grid(ABC, (0, 0, 0), (0, 1, 2))), Finest(None), Finest([grid]),
                      Finest(SAME), Finest(Grid(ABCD, (0, 0, 1, 2), (0, 1, 2, 3))), Finest(str(grid)), grid, None,
                      Broken(("place", "a", "b")), Broken(None), Broken(()), Paper("finest", grid), SAME):
            self.assertIs(shows_plain(book, value), False)
        torn = book.with_fact(Saying("row", "a", "b", False))
        for value in (Finest(grid), Broken(("place", "a", "b")), Broken(("apart", "row", "b", "a")), Broken(()),
                      Broken(("fact", 0)), ("apart", "row", "a", "b"), Denial("broken", ("apart", "row", "a", "b")),
                      Finest(("apart", "row", "a", "b")), None, SAME):
            self.assertIs(shows_plain(torn, value), False)
        self.assertIs(shows_plain(torn, Broken(["apart", "row", "a", "b"])), True)
        self.assertIs(shows_plain(torn, Broken(["fact", 1])), True)


class CheckErrors(Case):
    def test_order(self):
        right = {"book": Book(ABC), "sayings": sayings_of("row a b"), "side": "row", "one": "a", "other": "c", "value": 0}
        faults = [
            (BadBook("book"), {"book": "a b c : - - : -"}), (BadSaying("sayings"), {"sayings": [Saying("row", "a", "x"), 1]}),
            (NoSign("d"), {"sayings": sayings_of("row a b", "row c d", "row e f")}), (BadSide("side"), {"side": "rows"}),
            (NoSign(["a"]), {"one": ["a"]}), (NoSign("x"), {"other": "x"})]
        self.refuses_in_order(shows_chain, right, faults)
        self.refuses_in_order(shows_parting, {**right, "value": None}, faults)
        self.refuses_in_order(shows_parting, {**right, "value": Parting("a", "c", "apart")}, faults)
        self.refuses_in_order(shows_chain, {**right, "value": Chain(["a", "c"])}, faults)
        self.refuses_in_order(shows_chain, {**right, "value": NoChain(["a", "b"])}, faults)

    def test_each(self):
        s = Saying("row", "a", "b")
        for call in (shows_chain, shows_parting):
            for value in (None, 0, "a : - - : -", ["a"], s):
                self.refuses(BadBook("book"), call, value, [], "row", "a", "b", None)
            for value in NO_LISTS + [[None], [s, "row a b"], s, [fact_of("row a b")], [[s]]]:
                self.refuses(BadSaying("sayings"), call, Book(ABC), value, "row", "a", "b", None)
            for value in NO_SIDES:
                self.refuses(BadSide("side"), call, Book(ABC), [], value, "a", "b", None)
            for value in (None, "d", "", 0, True, ["a"], ("a", "b"), SAME):
                self.refuses(NoSign(value), call, Book(ABC), [], "row", value, "z", None)
                self.refuses(NoSign(value), call, Book(ABC), [], "row", "a", value, None)

    def test_books_that_are_not_plain_have_chains_too(self):
        for book in NOT_PLAIN:
            self.assertIs(shows_chain(book, sayings_of("row a b"), "row", "a", "b", Chain(["a", "b"])), True)
            self.assertIs(shows_parting(book, sayings_of("row a b"), "column", "b", "a", Parting("b", "a", "joined")), True)


if __name__ == "__main__":
    unittest.main()
