"""Namings: what they give, muddles, what stands and what is given away: beside a plain listing of all grids and lots."""

import itertools
import random
import unittest

from mutesigns.books import Book
from mutesigns.errors import BadBook, BadHeard, BadNaming, BadWord, Impossible, NoSign, TooMany
from mutesigns.grids import Grid
from mutesigns.namings import Barred, Given, Lots, Muddled, Naming, NothingGiven, Stands, all_given, gives_away, lots_standing
from mutesigns.namings import stand, values_of, ways_for
from mutesigns.possible import grid_of
from mutesigns.sayings import Saying
from mutesigns.values import Values
from mutesigns.ways import WAYS, syllables
from oracles import drawn_book, is_right_tree, kept_grids
from support import NO_LISTS, SAME, Case
from test_bearing import lots_in_order
from test_books import EIGHT
from test_facts import fact_of, sayings_of
from test_sheets import NO_WORDS
from test_ways import NO_HEARD, NO_WAYS

ABC = ["a", "b", "c"]
KNS = ["k", "n", "s"]
KNOSOS = Naming(KNS, "knosos", "next")
BOTH = Book(KNS, sayings_of("column k n"))
TORN = [Book(KNS, [], 1, 2), Book(KNS, sayings_of("row k n", "column k n"))]
WITH_BOOK = (stand, gives_away, all_given, lots_standing)
NO_BOOKS = [None, 0, "a : - - : -", KNS, SAME, KNOSOS]


def named(text):
    """The naming with this text."""
    word, told = text.split(" = ")
    return Naming(word.split(" "), *told.split(" "))


def given_by(namings):
    """All (sign, value) that the namings give, told plainly."""
    return {pair for one in namings for pair in zip(one.word, syllables(one.heard, one.way))
            if len(one.word) == len(syllables(one.heard, one.way))}


def muddles_in(namings):
    """All muddles, told plainly."""
    found = [("length", at) for at, one in enumerate(namings) if len(syllables(one.heard, one.way)) != len(one.word)]
    given = given_by(namings)
    found += [("sign", one[0], one[1], other[1]) for one, other in itertools.product(given, repeat=2)
              if one[0] == other[0] and one[1] < other[1]]
    return found + [("value", one[0], other[0], one[1]) for one, other in itertools.product(given, repeat=2)
                    if one[1] == other[1] and one[0] < other[0]]


def first_of(muddles):
    """The first muddle: of a length, then of a sign, then of a value."""
    return next(min(of_sort) for sort in ("length", "sign", "value") if (of_sort := [one for one in muddles if one[0] == sort]))


def do_stand(namings, kept):
    """Whether the namings stand, kept being the grids that keep the book."""
    if not namings:
        return bool(kept)
    return not muddles_in(namings) and any(Values(sorted(given_by(namings))).fits(grid) for grid in kept)


def drawn_naming(draw, signs):
    """A naming of one to three of the signs, mostly with as many syllables as its word has."""
    word = draw.choices(signs, k=draw.choice((1, 2, 2, 3))) if draw.random() < 0.2 else draw.sample(signs, min(len(signs), draw.choice((1, 2, 2, 3))))
    many = len(word) if draw.random() < 0.85 else draw.randint(1, 4)
    heard = "".join(draw.choice(("k", "s", "k", "")) + draw.choice("ao") for _ in range(many))
    return Naming(word, heard + draw.choice(("", "", "k")), draw.choice(WAYS))


def drawn_named(seed, count, most=4, most_facts=3):
    """Books, the grids that keep them, and some namings of their signs."""
    draw = random.Random(seed)
    found = []
    for _ in range(count):
        book = drawn_book(draw, EIGHT[:draw.choice((2, 3, 4))], most_facts, (None, None, 2, 3))
        if grid_of(book):
            namings = [drawn_naming(draw, book.signs) for _ in range(draw.randint(1, most))]
            found.append((book, kept_grids(book), namings))
    return found


class NamingValues(Case):
    def test_attributes(self):
        word = ["k", "n", "k"]
        naming = Naming(word, heard="knoso", way="next")
        word.append("x")
        self.assertEqual((naming.word, naming.heard, naming.way, naming.syllables), (("k", "n", "k"), "knoso", "next", ("ko", "no", "so")))
        self.assertEqual((str(naming), str(Naming(way="drop", heard="pst", word=("a1",)))), ("k n k = knoso next", "a1 = pst drop"))
        self.assertEqual(Naming(["a"], "pst", "next").syllables, ())
        self.assertTrue(naming == named("k n k = knoso next"))
        for text in ("k n n = knoso next", "k n k = knosa next", "k n k = knoso drop", "k n = knoso next"):
            self.assertTrue(naming != named(text))
            self.assertFalse(naming == named(text))
        self.assertFalse(naming == str(naming))

    def test_errors(self):
        right = {"word": ["k"], "heard": "ko", "way": "drop"}
        self.refuses_in_order(Naming, right, [(BadWord("word"), {"word": []}), (BadHeard("heard"), {"heard": "KO"}),
                                              (BadHeard("way"), {"way": "both"})])
        for value in NO_WORDS:
            self.refuses(BadWord("word"), Naming, value, None, None)
        for value in NO_HEARD:
            self.refuses(BadHeard("heard"), Naming, ["k"], value, None)
        for value in NO_WAYS:
            self.refuses(BadHeard("way"), Naming, ["k"], "ko", value)


class GivenValues(Case):
    def check(self, namings):
        found, muddles = values_of(namings), muddles_in(namings)
        self.assertEqual(found, values_of(namings=tuple(namings)))
        if muddles:
            self.assertEqual((type(found), found.kind, bool(found), found.by), (Muddled, "muddled", False, first_of(muddles)))
            return found.by[0]
        self.assertEqual(found, Values(sorted(given_by(namings))))
        return "right"

    def test_drawn(self):
        draw = random.Random(1)
        kinds = [self.check([drawn_naming(draw, EIGHT[:4]) for _ in range(draw.choice((1, 1, 2, 3, 5)))]) for _ in range(500)]
        self.assertTrue(all(kinds.count(kind) > 20 for kind in ("right", "length", "sign", "value")), kinds)

    def test_each_muddle(self):
        for texts, by in (
                (["k n = knosos next"], ("length", 0)), (["k = ko next", "n = pst drop", "n = a drop", "s = sasa next"], ("length", 1)),
                (["k n k = knosos next"], ("sign", "k", "ko", "so")), (["n k = koka drop", "k n = saso drop"], ("sign", "k", "ka", "sa")),
                (["k n = koko drop"], ("value", "k", "n", "ko")), (["s k = koka drop", "n = ko drop", "a = ka drop"], ("value", "a", "k", "ka")),
                (["k n = koko drop", "s s = koka drop"], ("sign", "s", "ka", "ko")), (["k k = kakaka drop", "k k = koka drop"], ("length", 0)),
                (["k = ka drop", "k = ko drop", "k = ke drop"], ("sign", "k", "ka", "ke")),
                (["c = ka drop", "b = ka drop", "a = ka drop"], ("value", "a", "b", "ka"))):
            self.assertEqual(values_of([named(text) for text in texts]).by, by)

    def test_a_length_gives_nothing(self):
        self.assertEqual(values_of([named("k n = knosos next"), named("k k = koka drop")]).by, ("length", 0))
        self.assertEqual(str(values_of([KNOSOS, KNOSOS, named("n = no drop")])), "k ko / n no / s so")

    def test_errors(self):
        for value in NO_LISTS + [[], (), KNOSOS, [KNOSOS, None], [str(KNOSOS)], [[KNOSOS]], [SAME]]:
            self.refuses(BadNaming("namings"), values_of, value)
        eight = [Naming(EIGHT[:6], "kasakasakasa", "drop"), Naming(EIGHT[2:], "ka", "drop")]
        self.assertEqual(values_of(eight).by, ("length", 1))
        self.refuses(TooMany("signs", 8), values_of, [*eight, Naming(["a", "i"], "ka", "drop")])
        self.refuses(TooMany("signs", 8), values_of, [*eight, Naming(["i", "j"], "kaka", "drop")])
        self.assertEqual(len(values_of([Naming(EIGHT[:6], "aeiou" + "ka", "drop"), Naming(EIGHT[6:], "keki", "drop")]).signs), 8)


class Standing(Case):
    def check(self, book, kept, namings):
        found = stand(book, namings)
        self.assertEqual(found, stand(namings=tuple(namings), book=book))
        if muddles_in(namings):
            self.assertEqual(found, Muddled(first_of(muddles_in(namings))))
            self.refuses(Impossible(found), gives_away, book, namings)
            self.refuses(Impossible(found), all_given, book, namings)
            return "muddled"
        values = Values(sorted(given_by(namings)))
        if do_stand(namings, kept):
            self.assertEqual((type(found), found.kind, bool(found)), (Stands, "stands", True))
            self.assertTrue(found.grid in kept and values.fits(found.grid))
            return self.check_given(book, kept, namings, values)
        self.assertEqual((type(found), found.kind, bool(found)), (Barred, "barred", False))
        self.assertTrue(is_right_tree(book, values.sayings(), found.tree))
        self.refuses(Impossible(found), gives_away, book, namings)
        self.refuses(Impossible(found), all_given, book, namings)
        return "barred"

    def check_given(self, book, kept, namings, values):
        told = [one for one in values.sayings() if not all(grid.holds(one) for grid in kept)]
        self.assertEqual(all_given(book, namings), tuple(told))
        self.assertEqual(all_given(namings=tuple(namings), book=book), tuple(told))
        found = gives_away(book, namings)
        self.assertEqual(found, gives_away(namings=tuple(namings), book=book))
        if told:
            self.assertEqual((type(found), found.kind, bool(found), found.saying), (Given, "given", False, told[0]))
            self.assertTrue(found.grid in kept and not found.grid.holds(told[0]))
            return "given"
        self.assertEqual((type(found), found.kind, bool(found)), (NothingGiven, "nothinggiven", True))
        self.assertEqual(len(found.trees), len(values.sayings()))
        for saying, tree in zip(values.sayings(), found.trees):
            self.assertTrue(is_right_tree(book, [saying.contrary()], tree))
        return "nothing"

    def test_drawn(self):
        kinds = [self.check(*one) for one in drawn_named(2, 150, 2) + drawn_named(8, 150, 1, 6)]
        self.assertTrue(all(kinds.count(kind) > 10 for kind in ("muddled", "barred", "given", "nothing")), kinds)

    def test_nothing_given(self):
        book = Book(KNS, sayings_of("column k n", "column n s", "not row k n"))
        self.assertEqual(self.check(book, kept_grids(book), [KNOSOS]), "nothing")
        self.assertEqual(self.check(BOTH, kept_grids(BOTH), [named("k = ka drop")]), "nothing")
        self.assertEqual(gives_away(BOTH, [named("k = ka drop")]).trees, ())
        self.assertEqual(all_given(BOTH, [named("k n = kasa drop")]), ())

    def test_plain_books_of_eight_signs(self):
        book = Book(EIGHT, sayings_of("row a b", "column a c", "not row a h"))
        namings = [Naming(EIGHT[:6], "kakosasoteti", "drop"), Naming(EIGHT[6:], "lamu", "drop")]
        found = stand(book, namings)
        self.assertTrue(found.grid.keeps(book) and values_of(namings).fits(found.grid))
        self.assertEqual((type(gives_away(book, namings)), len(all_given(book, namings)) > 40), (Given, True))
        barred = [Naming(EIGHT[:2], "kaso", "drop")]
        self.assertEqual(stand(book, barred).tree, (("apart", "row", "a", "b"),))

    def test_six_signs(self):
        book = Book(EIGHT[:6], [fact_of("row a b", "row a c"), fact_of("column a d", "column b d")], 3, 3)
        for heard in ("kakosasotato", "kakokukisasu"):
            namings = [Naming(EIGHT[:6], heard, "drop")]
            found = stand(book, namings)
            self.assertIn(found.kind, ("stands", "barred"))
            if found:
                self.assertTrue(found.grid.keeps(book) and values_of(namings).fits(found.grid))
            else:
                self.assertTrue(is_right_tree(book, values_of(namings).sayings(), found.tree))

    def test_ways_for(self):
        draw = random.Random(3)
        seen = set()
        for book, kept, namings in drawn_named(4, 200, 1):
            word = namings[0].word
            heard = draw.choice((namings[0].heard, "k" + namings[0].heard, namings[0].heard + "ko", "ksa", "aso"))
            plain = tuple(way for way in ("drop", "next") if do_stand([Naming(word, heard, way)], kept))
            self.assertEqual(ways_for(book, word, heard), plain)
            self.assertEqual(ways_for(heard=heard, word=list(word), book=book), plain)
            seen.add(plain)
        self.assertEqual(seen, {(), ("drop",), ("next",), ("drop", "next")})


class LotsStanding(Case):
    def check(self, book, kept, namings):
        found = lots_standing(book, namings)
        self.assertEqual((type(found), found.kind, found), (Lots, "lots", lots_standing(namings=tuple(namings), book=book)))
        standing = [lot for lot in lots_in_order(len(namings)) if do_stand([namings[at] for at in lot], kept)]
        greatest = [lot for lot in standing if not any(set(lot) < set(other) for other in standing)]
        self.assertEqual([lot for lot, grid in found.greatest], greatest)
        for lot, grid in found.greatest:
            self.assertIn(grid, kept)
            if lot:
                self.assertTrue(values_of([namings[at] for at in lot]).fits(grid))
        fallen = [lot for lot in lots_in_order(len(namings)) if lot not in standing]
        least = [lot for lot in fallen if not any(set(other) < set(lot) for other in fallen)]
        self.assertEqual([lot for lot, paper in found.barred], least)
        for lot, paper in found.barred:
            told = [namings[at] for at in lot]
            if muddles_in(told):
                self.assertEqual(paper, Muddled(first_of(muddles_in(told))))
            else:
                self.assertIs(type(paper), Barred)
                self.assertTrue(is_right_tree(book, Values(sorted(given_by(told))).sayings(), paper.tree))
        return (len(greatest), len(least))

    def test_drawn(self):
        found = [self.check(*one) for one in drawn_named(5, 150)]
        self.assertTrue(all(any(one[0] == many for one in found) for many in (1, 2, 3)), found)
        self.assertTrue(any(one[1] > 2 for one in found))

    def test_six_namings(self):
        draw = random.Random(6)
        for book, kept, _ in drawn_named(7, 12):
            self.check(book, kept, [drawn_naming(draw, book.signs) for _ in range(6)])

    def test_none_stands(self):
        found = lots_standing(BOTH, [named("k n = koso next"), named("k = pst drop")])
        self.assertEqual([lot for lot, grid in found.greatest], [(0,)])
        found = lots_standing(BOTH, [named("k n = kosa next"), named("k = pst drop")])
        self.assertEqual([(lot, paper.kind) for lot, paper in found.barred], [((0,), "barred"), ((1,), "muddled")])
        self.assertEqual([lot for lot, grid in found.greatest], [()])
        self.assertTrue(found.greatest[0][1].keeps(BOTH))
        self.assertEqual(found.barred[1][1].by, ("length", 0))

    def test_equal_namings(self):
        found = lots_standing(BOTH, [KNOSOS] * 3)
        self.assertEqual(([lot for lot, grid in found.greatest], found.barred), ([(0, 1, 2)], ()))


class NamingErrors(Case):
    def test_order(self):
        right = {"book": Book(EIGHT[:4]), "namings": [named("a b = kasa drop")]}
        faults = [(BadBook("book"), {"book": None}), (BadNaming("namings"), {"namings": []}),
                  (NoSign("x"), {"namings": [named("a b = kasa drop"), named("a x y = pst drop"), named("w = ka drop")] * 3})]
        seven = (TooMany("signs", 6), {"book": Book(EIGHT[:7], [], 8)})
        crowd = (TooMany("namings", 6), {"namings": [named("a = ka drop")] * 7})
        torn = Book(EIGHT[:4], [], 1, 2)
        for call in WITH_BOOK:
            self.refuses_in_order(call, right, [*faults, seven, (Impossible(grid_of(torn)), {"book": torn})][:4])
            self.refuses_in_order(call, right, [*faults, (Impossible(grid_of(torn)), {"book": torn})])
            self.refuses_in_order(call, right, [*faults[:2], seven, crowd])
            self.refuses(TooMany("namings", 6), call, torn, [named("a = ka drop")] * 7)
        right = {"book": Book(EIGHT[:4]), "word": ["a"], "heard": "ka"}
        faults = [(BadBook("book"), {"book": 0}), (BadWord("word"), {"word": "a"}), (BadHeard("heard"), {"heard": "Ka"})]
        self.refuses_in_order(ways_for, right, [*faults, (NoSign("x"), {"word": ["a", "x", "y"]})])
        for last in (seven, (Impossible(grid_of(torn)), {"book": torn})):
            self.refuses_in_order(ways_for, right, [*faults, last])
        self.refuses(NoSign("x"), ways_for, seven[1]["book"], ["x"], "ka")

    def test_what_is_muddled(self):
        muddled = [named("k n = pst drop")]
        for book in TORN:
            for call in WITH_BOOK:
                for namings in ([KNOSOS], muddled):
                    self.refuses(Impossible(grid_of(book)), call, book, namings)
            self.refuses(Impossible(grid_of(book)), ways_for, book, ["k"], "pst")
        for call in WITH_BOOK:
            self.refuses(TooMany("namings", 6), call, BOTH, muddled * 7)
            self.refuses(NoSign("z"), call, BOTH, [*muddled, named("z = pst drop")])
            self.refuses(TooMany("signs", 6), call, Book([*KNS, *EIGHT[:4]], [], 1, 1), muddled * 7)
        self.assertEqual(stand(BOTH, muddled * 6).by, ("length", 0))
        self.assertEqual(ways_for(BOTH, ["k"], "pst"), ())

    def test_each(self):
        for call in WITH_BOOK:
            for value in NO_BOOKS:
                self.refuses(BadBook("book"), call, value, [KNOSOS])
            for value in NO_LISTS + [[], (), KNOSOS, [KNOSOS, None], [str(KNOSOS)], [[KNOSOS]], [SAME]]:
                self.refuses(BadNaming("namings"), call, BOTH, value)
            self.refuses(NoSign("x"), call, BOTH, [KNOSOS, named("n x y = kosasa drop")])
        for value in NO_BOOKS:
            self.refuses(BadBook("book"), ways_for, value, ["k"], "ka")
        for value in NO_WORDS:
            self.refuses(BadWord("word"), ways_for, BOTH, value, "ka")
        for value in NO_HEARD:
            self.refuses(BadHeard("heard"), ways_for, BOTH, ["k"], value)

    def test_large_books(self):
        for book in (Book(EIGHT[:7], [], 8), Book(EIGHT, [fact_of("row a b", "row a c")]), Book(EIGHT[:7], [], 1, 1)):
            for call in WITH_BOOK:
                self.refuses(TooMany("signs", 6), call, book, [named("a = ka drop")])
            self.refuses(TooMany("signs", 6), ways_for, book, ["a"], "ka")
        for call in WITH_BOOK:
            call(Book(EIGHT), [named("a = ka drop")] * 6)
            call(Book(EIGHT[:6], [], 3, 3), [named("a = ka drop")] * 6)

    def test_papers(self):
        for paper, parts in ((Muddled(by=["length", 1]), (("length", 1),)), (Stands(grid=1), (1,)), (Barred(tree=[[1]]), (((1,),),)),
                             (NothingGiven(trees=[]), ((),)), (Given(grid=2, saying=1), (1, 2)), (Lots(barred=[], greatest=[[1]]), (((1,),), ()))):
            self.assertEqual((paper.parts, paper.kind), (parts, type(paper).__name__.lower()))
        self.assertEqual(Given(Saying("row", "a", "b"), Grid(["a"], [0], [0])), Given(Saying("row", "b", "a"), Grid(["a"], [0], [0])))


if __name__ == "__main__":
    unittest.main()
