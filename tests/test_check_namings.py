"""Papers of namings, right and bent, read plainly: by all muddles, all lots and all grids."""

import random
import unittest

from bending import ODD, bent_paper, both_sorts, is_any_tree, is_grid_in, is_lot_of, is_row, is_told
from mutesigns.answers import Open
from mutesigns.books import Book
from mutesigns.check_namings import shows_given, shows_lots, shows_stand
from mutesigns.errors import BadBook, BadNaming, NoSign, TooMany
from mutesigns.grids import Grid
from mutesigns.namings import Barred, Given, Lots, Muddled, Naming, NothingGiven, Stands, gives_away, lots_standing, stand
from mutesigns.namings import values_of
from mutesigns.papers import Denial, Paper
from mutesigns.possible import Kept, grid_of
from mutesigns.refusing import tree_with
from mutesigns.sayings import Saying
from mutesigns.values import Values
from mutesigns.ways import exchanged
from oracles import drawn_book, drawn_sayings, kept_grids
from support import NO_LISTS, SAME, Case
from test_bearing import lots_in_order
from test_books import EIGHT
from test_facts import sayings_of
from test_grids import all_grids
from test_namings import BOTH, KNOSOS, KNS, NO_BOOKS, TORN, do_stand, drawn_named, given_by, muddles_in, named

CHECKS = (shows_stand, shows_given, shows_lots)


def told_by(namings):
    """The sayings that namings tell, None for muddled ones."""
    if not namings:
        return ()
    return None if muddles_in(namings) else Values(sorted(given_by(namings))).sayings()


def is_stand(book, kept, namings, value):
    """Whether it is a right Stands, Muddled or Barred, told plainly."""
    told = told_by(namings)
    if type(value) is Muddled:
        return any(is_told(value.by, muddle) for muddle in muddles_in(namings))
    if told is None:
        return False
    if type(value) is Stands:
        return is_grid_in(value.grid, kept) and all(value.grid.holds(saying) for saying in told)
    return type(value) is Barred and is_any_tree(book, told, value.tree)


def is_given(book, kept, namings, value):
    """Whether it is a right NothingGiven or Given, told plainly."""
    told = told_by(namings)
    if told is None:
        return False
    if type(value) is NothingGiven:
        return is_row(value.trees, len(told)) and all(
            is_any_tree(book, [saying.contrary()], tree) for saying, tree in zip(told, value.trees))
    if type(value) is not Given or type(value.saying) is not Saying:
        return False
    return (str(value.saying) in [str(saying) for saying in told] and is_grid_in(value.grid, kept)
            and not value.grid.holds(value.saying))


def is_lots(book, kept, namings, value):
    """Whether it is a right Lots, told plainly: by going through all lots."""
    if type(value) is not Lots or not all(
            is_row(rows) and all(is_row(row, 2) and is_lot_of(row[0], len(namings)) for row in rows)
            for rows in (value.greatest, value.barred)):
        return False
    greatest, barred = [set(lot) for lot, grid in value.greatest], [set(lot) for lot, paper in value.barred]
    order = [(len(lot), lot) for lot, grid in value.greatest]
    if order != sorted(order) or any(one <= other for at, one in enumerate(greatest)
                                     for place, other in enumerate(greatest) if at != place):
        return False
    if not all(is_stand(book, kept, [namings[at] for at in lot], Stands(grid)) for lot, grid in value.greatest):
        return False
    if not all(type(paper) in (Muddled, Barred) and is_stand(book, kept, [namings[at] for at in lot], paper)
               for lot, paper in value.barred):
        return False
    return all(any(set(lot) <= one for one in greatest) or any(one <= set(lot) for one in barred)
               for lot in lots_in_order(len(namings)))


def pool_of(draw, book, namings):
    """Things to bend papers with."""
    grids = draw.sample(all_grids(book.signs), min(4, len(all_grids(book.signs))))
    more = [("length", 0), ("length", False), ("sign", "a", "ka", "sa"), (0,), (0, 1), "b", "column", *drawn_sayings(draw, book.signs, 2)]
    return ODD + grids + more + [Muddled(("length", 0)), Barred([["place", "a", "b"]]), *list(muddles_in(namings))[:2]]


class Shown(Case):
    def check(self, shows, is_right, papers, seed, bends=6):
        """Each paper is right, and each bent one only if it is told plainly to be."""
        draw = random.Random(seed)
        found = []
        for book, kept, namings, paper in papers:
            self.assertIs(shows(book, namings, paper), True)
            self.assertIs(shows(namings=tuple(namings), value=paper, book=book), True)
            pool = pool_of(draw, book, namings)
            for _ in range(bends):
                value = bent_paper(draw, paper, pool)
                found.append(is_right(book, kept, namings, value))
                self.assertIs(shows(book, namings, value), found[-1], (str(book), [str(one) for one in namings], value.parts))
        both_sorts(self, found)

    def test_stand(self):
        papers = [(*one, stand(one[0], one[2])) for one in drawn_named(21, 150, 3)]
        self.assertEqual({type(one[3]) for one in papers}, {Muddled, Stands, Barred})
        self.check(shows_stand, is_stand, papers, 1)

    def test_given(self):
        drawn = [one for one in drawn_named(22, 250, 3, most_facts=5) if do_stand(one[2], one[1])]
        papers = [(*one, gives_away(one[0], one[2])) for one in drawn]
        self.assertEqual({type(one[3]) for one in papers}, {NothingGiven, Given})
        self.check(shows_given, is_given, papers, 2, 12)

    def test_lots(self):
        papers = [(*one, lots_standing(one[0], one[2])) for one in drawn_named(23, 200, 4)]
        self.check(shows_lots, is_lots, papers, 3, 10)

    def test_any_of_these(self):
        """All muddles, all grids, all sayings that fail: right just if they are so."""
        for book, kept, namings in drawn_named(24, 60, 3):
            for muddle in muddles_in(namings):
                self.assertIs(shows_stand(book, namings, Muddled(muddle)), True)
            for grid in all_grids(book.signs):
                self.assertIs(shows_stand(book, namings, Stands(grid)), is_stand(book, kept, namings, Stands(grid)))
            told = told_by(namings)
            for saying in [*(told or ()), *drawn_sayings(random.Random(1), book.signs, 4)]:
                for grid in kept[:12]:
                    paper = Given(saying, grid)
                    self.assertIs(shows_given(book, namings, paper), is_given(book, kept, namings, paper))

    def test_a_later_saying(self):
        seen = Grid(KNS, [0, 1, 1], [0, 0, 1])
        self.assertEqual(gives_away(BOTH, [KNOSOS]).saying, Saying("column", "k", "s"))
        self.assertIs(shows_given(BOTH, [KNOSOS], Given(Saying("row", "n", "s", False), seen)), True)
        self.assertIs(shows_given(BOTH, [KNOSOS], Given(Saying("row", "n", "s"), seen)), False)
        self.assertIs(shows_given(BOTH, [KNOSOS], Given(Saying("row", "k", "s", False), seen)), False)

    def test_muddled(self):
        """Where namings are muddled no Stands, Barred, NothingGiven, Given is right."""
        namings = [named("k = ko drop"), named("k = so drop"), named("n = ko drop"), named("s = pst drop")]
        grid = kept_grids(BOTH)[0]
        for by in (("length", 3), ("sign", "k", "ko", "so"), ("value", "k", "n", "ko"), ["value", "k", "n", "ko"]):
            self.assertIs(shows_stand(BOTH, namings, Muddled(by)), True)
        for by in (("length", 0), ("length", 3.0), ("length",), ("length", 3, 0), ("sign", "k", "so", "ko"), ("value", "n", "k", "ko"),
                   ("value", "k", "n", "so"), ("value", "k", "n", SAME), (SAME, 3), None, SAME, "length", (), ("length", True)):
            self.assertIs(shows_stand(BOTH, namings, Muddled(by)), False, by)
        self.assertIs(shows_stand(BOTH, namings[1:], Muddled(("length", 2))), True)
        self.assertIs(shows_stand(BOTH, [named("k = pst drop")] * 2, Muddled(("length", True))), False)
        self.assertIs(shows_stand(BOTH, [named("k = pst drop")] * 2, Muddled(("length", False))), False)
        for value in (Stands(grid), Barred([["place", "k", "n"]])):
            self.assertIs(shows_stand(BOTH, namings, value), False)
        for value in (NothingGiven([]), Given(Saying("row", "k", "n"), grid)):
            self.assertIs(shows_given(BOTH, namings, value), False)
        self.assertIs(shows_given(BOTH, [named("k = pst drop")], NothingGiven([])), False)
        self.assertIs(shows_given(BOTH, [named("k = ka drop")], NothingGiven([])), True)

    def test_other_values(self):
        grid = kept_grids(BOTH)[0]
        for value in (None, True, SAME, (), grid, "stands", Kept(grid), Paper("stands", grid), Denial("muddled", ("length", 0)),
                      Denial("barred", [["place", "k", "n"]]), Open(grid, grid), Denial("given", Saying("column", "k", "s", False), grid),
                      Paper("lots", [((0,), grid)], ())):
            for shows in CHECKS:
                self.assertIs(shows(BOTH, [KNOSOS], value), False)
        right = lots_standing(BOTH, [KNOSOS])
        self.assertIs(shows_lots(BOTH, [KNOSOS], right), True)
        self.assertIs(shows_stand(BOTH, [KNOSOS], right), False)
        self.assertIs(shows_given(BOTH, [KNOSOS], stand(BOTH, [KNOSOS])), False)

    def test_lots_one_by_one(self):
        namings = [KNOSOS, named("n = so drop"), named("s = so drop")]
        right = lots_standing(BOTH, namings)
        first, second = right.greatest
        one, other = right.barred
        of_all = ((0, 1, 2), Muddled(("value", "n", "s", "so")))
        grid = first[1]
        for greatest, barred, is_right in (
                ([first, second], [other, one], True), ([first, second], [one, one, other], True),
                ([first, second], [one, other, of_all], True), ([first, second], [one], False), ([first, second], [of_all], False),
                ([second, first], [one, other], False), ([first], [one, other], False), ([first, first, second], [one, other], False),
                ([((), grid), first, second], [one, other], False), ([((0,), second[1]), first, second], [one, other], False),
                ([first, second], [one, other, ((1,), one[1])], False), ([first, second], [one, ((1, 2), one[1])], False),
                ([first, second], [one, ((2, 1), other[1])], False), ([first, ((0, 2, 3), second[1])], [one, other], False),
                ([((True,), grid), second], [one, other], False), ([first, second], [one, (other[1], (1, 2))], False),
                ([first, second], [one, (*other, 1)], False), ([first, second], None, False), (None, [one, other], False),
                ([first, second], [one, ((1, 2), Barred([["place", "n", "s"]]))], False)):
            self.assertIs(shows_lots(BOTH, namings, Lots(greatest, barred)), is_right, (greatest, barred))

    def test_books_that_no_grid_keeps(self):
        """Papers are read by their trees: of such a book any are right, and the lot of no naming does not stand."""
        draw = random.Random(4)
        for book in TORN:
            tree = grid_of(book).tree
            told = told_by([KNOSOS])
            barred = Barred(tree_with(book, told))
            trees = [tree_with(book, [saying.contrary()]) for saying in told]
            self.assertIs(shows_stand(book, [KNOSOS], barred), True)
            self.assertIs(shows_given(book, [KNOSOS], NothingGiven(trees)), True)
            self.assertIs(shows_given(book, [KNOSOS], NothingGiven(trees[:5])), False)
            self.assertIs(shows_lots(book, [KNOSOS], Lots([], [((), Barred(tree))])), True)
            self.assertIs(shows_lots(book, [KNOSOS], Lots([], [((0,), barred), ((), Barred(tree))])), True)
            self.assertIs(shows_lots(book, [KNOSOS], Lots([], [((0,), barred)])), False)
            self.assertIs(shows_lots(book, [KNOSOS], Lots([], [])), False)
            for grid in draw.sample(all_grids(KNS), 10):
                self.assertIs(shows_stand(book, [KNOSOS], Stands(grid)), False)
                self.assertIs(shows_lots(book, [KNOSOS], Lots([((), grid)], [((0,), Barred(tree))])), False)
        self.assertIs(shows_lots(BOTH, [KNOSOS], Lots([], [((), Barred([["place", "k", "n"]]))])), False)

    def test_six_namings(self):
        draw = random.Random(5)
        for _ in range(4):
            book = drawn_book(draw, EIGHT[:6], 3, (None, 3))
            if grid_of(book):
                namings = [named(f"{sign} = {value} drop") for sign, value in zip(draw.sample(EIGHT[:6], 6), ("ka", "ko", "sa", "so", "a", "o"))]
                found = lots_standing(book, namings)
                self.assertIs(shows_lots(book, namings, found), True)
                self.assertIs(shows_lots(book, namings, Lots(found.greatest[1:], found.barred)), False)


class Facts(Case):
    def test_parts_of_lots(self):
        """Each part of a lot that stands stands: the lots that stand are just the parts of greatest ones."""
        for book, kept, namings in drawn_named(25, 60, 4):
            greatest = [set(lot) for lot, grid in lots_standing(book, namings).greatest]
            for lot in lots_in_order(len(namings))[1:]:
                found = stand(book, [namings[at] for at in lot])
                self.assertIs(type(found) is Stands, any(set(lot) <= whole for whole in greatest))

    def test_letters_exchanged(self):
        """With letters exchanged other heard words stand just as well, and give away just the same."""
        for book, kept, namings in drawn_named(26, 80, 3):
            for one, other in (("k", "s"), ("a", "o"), ("k", "t")):
                others = [Naming(naming.word, exchanged(naming.heard, one, other), naming.way) for naming in namings]
                found, there = stand(book, namings), stand(book, others)
                self.assertIs(type(found), type(there))
                self.assertEqual(told_by(namings), told_by(others))
                if found:
                    self.assertEqual(gives_away(book, namings), gives_away(book, others))
                    self.assertIs(shows_stand(book, others, found), True)
                    self.assertIs(shows_given(book, others, gives_away(book, namings)), True)

    def test_nothing_given_away(self):
        """Namings give nothing away exactly if their values fit each grid that keeps the book."""
        found = []
        for book, kept, namings in drawn_named(27, 200, 2, most_facts=5):
            if do_stand(namings, kept):
                found.append(all(values_of(namings).fits(grid) for grid in kept))
                self.assertIs(bool(gives_away(book, namings)), found[-1])
        both_sorts(self, found, 10)


class Errors(Case):
    def test_order(self):
        right = {"book": Book(EIGHT[:4]), "namings": [named("a b = kasa drop")], "value": None}
        faults = [(BadBook("book"), {"book": None}), (BadNaming("namings"), {"namings": []})]
        signs = (NoSign("x"), {"namings": [named("a b = kasa drop"), named("a x y = pst drop"), named("w = ka drop")] * 3})
        seven = (TooMany("signs", 6), {"book": Book(EIGHT[:7], [], 8)})
        crowd = (TooMany("namings", 6), {"namings": [named("a = ka drop")] * 7})
        for shows in CHECKS:
            self.refuses_in_order(shows, right, [*faults, signs])
            self.refuses_in_order(shows, right, [faults[0], signs, seven])
            self.refuses_in_order(shows, right, [*faults, seven, crowd])
            for value in NO_BOOKS:
                self.refuses(BadBook("book"), shows, value, None, SAME)
            for value in NO_LISTS + [[], (), KNOSOS, [KNOSOS, None], [str(KNOSOS)], [[KNOSOS]], [SAME]]:
                self.refuses(BadNaming("namings"), shows, BOTH, value, SAME)
            for book in (Book(EIGHT[:7], [], 8), Book(EIGHT[:7], [], 1, 1)):
                self.refuses(TooMany("signs", 6), shows, book, [named("a = ka drop")], None)

    def test_nothing_else(self):
        """What no grid keeps, and plain books of eight signs, raise nothing."""
        for book in (*TORN, Book(KNS, sayings_of("row k n", "not row k n"))):
            for shows in CHECKS:
                for namings in ([KNOSOS], [named("k n = pst drop")], [KNOSOS] * 6):
                    self.assertIs(shows(book, namings, None), False)
        large = Book(EIGHT, sayings_of("row a b", "column c h"))
        namings = [named("a b = koka drop"), named("c h = sate drop")]
        self.assertIs(shows_stand(large, namings, stand(large, namings)), True)
        self.assertIs(shows_lots(large, namings, lots_standing(large, namings)), True)


if __name__ == "__main__":
    unittest.main()
