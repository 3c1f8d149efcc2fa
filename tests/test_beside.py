"""Ties, bars, grids that have ties, sides: beside a plain listing of all grids."""

import functools
import itertools
import random
import unittest

from mutesigns.bars import Claw, Diamond, LeftOut, Ring, bar_of, left_out
from mutesigns.beside import Ties, apart_facts, beside_fact, spelled, tied_book, ties_of
from mutesigns.books import Book
from mutesigns.check_beside import shows_laid, shows_left_out, shows_sides
from mutesigns.errors import BadBook, BadGrid, BadTies, BadWord, Impossible, NoSign, TooMany, Twice
from mutesigns.facts import Fact
from mutesigns.grids import Grid
from mutesigns.lines import Laid, Loose, OneSide, TwoSides, all_laid, hanging, laid, lot_crossed, many_laid, sides
from mutesigns.papers import Denial, Paper
from mutesigns.possible import Kept, grid_of
from mutesigns.sayings import Saying
from support import NO_LISTS, NO_NAMES, SAME, Case
from test_books import EIGHT
from test_grids import all_grids
from test_sayings import NO_RENAMINGS
from test_sheets import NO_WORDS

ABCD = ["a", "b", "c", "d"]
FIVE = EIGHT[:5]
FOUR_RING = Ties(ABCD, [("a", "b"), ("b", "c"), ("c", "d"), ("a", "d")])
FIVE_RING = Ties(FIVE, [*zip(FIVE, FIVE[1:]), ("a", "e")])
CLAW = Ties(ABCD, [("a", "b"), ("a", "c"), ("a", "d")])
DIAMOND = Ties(ABCD, [("a", "b"), ("a", "c"), ("a", "d"), ("b", "c"), ("b", "d")])
BARRED = [FIVE_RING, CLAW, DIAMOND, Ties(EIGHT, [*zip(EIGHT, EIGHT[1:7]), ("a", "g")])]
NO_TIES = [None, 0, [("a", "b")], (ABCD, []), SAME, Book(ABCD), "a b"]


def twos(signs):
    return list(itertools.combinations(sorted(signs), 2))


def pairs_of(grid):
    """The ties of a grid, told plainly."""
    place = dict(zip(grid.signs, zip(grid.rows, grid.columns)))
    return tuple((one, other) for one, other in twos(grid.signs)
                 if place[one][0] == place[other][0] or place[one][1] == place[other][1])


@functools.cache
def grids_by_ties(many):
    """For the ties of each grid of so many signs all grids that have them."""
    found = {}
    for grid in all_grids(EIGHT[:many]):
        found.setdefault(pairs_of(grid), []).append(grid)
    return found


def is_right_bar(ties, bar):
    """Whether a bar is one, told plainly."""
    pairs = {frozenset(pair) for pair in ties.pairs}

    def beside(one, other):
        return frozenset((one, other)) in pairs

    def induces(signs, wanted):
        return (len(set(signs)) == len(signs) and set(signs) <= set(ties.signs)
                and all(beside(*two) == (frozenset(two) in wanted) for two in itertools.combinations(signs, 2)))

    if type(bar) is Claw:
        return len(bar.others) == 3 and induces((bar.sign, *bar.others), {frozenset((bar.sign, one)) for one in bar.others})
    if type(bar) is Diamond:
        signs = (bar.one, bar.other, *bar.tips)
        return len(bar.tips) == 2 and induces(signs, {frozenset(two) for two in itertools.combinations(signs, 2)} - {frozenset(bar.tips)})
    if type(bar) is Ring:
        steps = {frozenset(two) for two in zip(bar.signs, [*bar.signs[1:], bar.signs[0]])}
        return len(bar.signs) in (5, 7) and induces(bar.signs, steps)
    return False


def drawn_ties(draw, many):
    chance = draw.random()
    return Ties(EIGHT[:many], [two for two in twos(EIGHT[:many]) if draw.random() < chance])


def drawn_grid(draw, many, across=4):
    """A grid of so many signs."""
    places = draw.sample(list(itertools.product(range(across), range(across))), many)
    return Grid.of(EIGHT[:many], places)


def lots_of(ties):
    """The lots that hang together, told plainly."""
    lots = {sign: {sign} for sign in ties.signs}
    for one, other in ties.pairs:
        both = lots[one] | lots[other]
        lots.update({sign: both for sign in both})
    return tuple(sorted({tuple(sorted(lot)) for lot in lots.values()}))


def side_in(grid, tie):
    return "row" if grid.are_alike("row", *tie) else "column"


class TiesValues(Case):
    def test_attributes(self):
        signs, pairs = ["c", "a", "b"], [["c", "a"], ("a", "c"), ("b", "c"), ["c", "b"]]
        ties = Ties(signs, pairs)
        signs.append("z")
        pairs[0][0] = "b"
        pairs.clear()
        self.assertEqual((ties.signs, ties.pairs, len(ties)), (("a", "b", "c"), (("a", "c"), ("b", "c")), 2))
        self.assertEqual((Ties(pairs=(), signs=("q",)).pairs, len(Ties(["q"], []))), ((), 0))

    def test_equal(self):
        self.assertTrue(Ties(["a", "b"], [("b", "a")]) == Ties(("b", "a"), [["a", "b"], ["a", "b"]]))
        for other in (Ties(["a", "b"], []), Ties(["a", "b", "c"], [("a", "b")]), Ties(["a", "c"], [("a", "c")]), None, (("a", "b"),)):
            self.assertTrue(Ties(["a", "b"], [("b", "a")]) != other)
            self.assertFalse(Ties(["a", "b"], [("b", "a")]) == other)

    def test_are_beside(self):
        draw = random.Random(1)
        for ties in [drawn_ties(draw, many) for many in (2, 3, 5, 8)]:
            for one, other in itertools.permutations(ties.signs, 2):
                self.assertIs(ties.are_beside(one, other), (min(one, other), max(one, other)) in ties.pairs)
        self.assertIs(FOUR_RING.are_beside(other="b", one="a"), True)
        self.refuses(NoSign("x"), FOUR_RING.are_beside, "x", "y")
        self.refuses(NoSign("y"), FOUR_RING.are_beside, "a", "y")
        self.refuses(Twice("a"), FOUR_RING.are_beside, "a", "a")
        for value in (None, 0, ["a"], SAME, ""):
            self.refuses(NoSign(value), FOUR_RING.are_beside, value, value)
            self.refuses(NoSign(value), FOUR_RING.are_beside, "a", value)

    def test_without(self):
        draw = random.Random(2)
        for ties in [drawn_ties(draw, many) for many in (2, 3, 5, 8)]:
            for size in range(len(ties.signs)):
                out = draw.sample(ties.signs, size)
                left = [sign for sign in ties.signs if sign not in out]
                self.assertEqual(ties.without(signs=out), Ties(left, [two for two in ties.pairs if set(two) <= set(left)]))
        self.assertEqual(FOUR_RING.without([]), FOUR_RING)
        self.assertEqual(FOUR_RING.without(("c", "a")), Ties(["b", "d"], []))
        for value in NO_LISTS + ["abcd"] + [["a", name] for name in NO_NAMES]:
            self.refuses(BadTies("signs"), FOUR_RING.without, value)
        self.refuses(NoSign("x"), FOUR_RING.without, ["a", "a", "x", "y"])
        self.refuses(Twice("a"), FOUR_RING.without, ["b", "a", "a", "b"])
        self.refuses(Twice("d"), FOUR_RING.without, ["a", "b", "c", "d", "d"])
        self.refuses(BadTies("none"), FOUR_RING.without, ["d", "b", "a", "c"])
        self.assertEqual(len(FOUR_RING), 4)

    def test_renamed(self):
        names = {"a": "z", "b": "y", "c": "x", "d": "a"}
        self.assertEqual(FOUR_RING.renamed(names), Ties(["z", "y", "x", "a"], [("z", "y"), ("y", "x"), ("x", "a"), ("a", "z")]))
        self.assertEqual(FOUR_RING.renamed(names={sign: sign for sign in ABCD}), FOUR_RING)
        for value in [*NO_RENAMINGS, {"a": "z"}, {**names, "e": "q"}, {**names, "a": "y"}, {}, None, SAME]:
            self.refuses(BadBook("names"), FOUR_RING.renamed, value)

    def test_errors(self):
        for value in NO_LISTS + [[], ()] + [["a", name] for name in NO_NAMES]:
            self.refuses(BadTies("signs"), Ties, value, None)
        for value in NO_LISTS + ["ab", ["ab"], [("a",)], [("a", "b", "c")], [None], [{"a", "b"}], [{"a": 1, "b": 2}]] + [
                [("a", name)] for name in NO_NAMES]:
            self.refuses(BadTies("pairs"), Ties, ["a", "b"], value)
        self.refuses(NoSign("x"), Ties, ["a", "b"], [("a", "a"), ("b", "x"), ("y", "a")])
        self.refuses(Twice("b"), Ties, ["a", "b"], [("a", "b"), ("b", "b"), ("a", "a")])
        nine = [*EIGHT, "i"]
        self.refuses(TooMany("signs", 8), Ties, nine, None)
        self.refuses(Twice("a"), Ties, [*nine, "a", "b"], None)
        self.refuses(BadTies("pairs"), Ties, EIGHT, [("x", "y"), "ab"])


class Words(Case):
    def test_ties_of(self):
        for many in (1, 2, 3, 4):
            for grid in all_grids(EIGHT[:many]):
                self.assertEqual((ties_of(grid).pairs, ties_of(grid=grid).signs), (pairs_of(grid), grid.signs))
        for value in (None, 0, "a : 0 : 0", SAME, FOUR_RING):
            self.refuses(BadGrid("grid"), ties_of, value)

    def test_spelled(self):
        draw = random.Random(3)
        for _ in range(200):
            one = draw.choices("abc", k=draw.randint(1, 4))
            other = draw.choices("abc", k=draw.choice((len(one), len(one), draw.randint(1, 6))))
            unlike = {frozenset((at, *two)) for at, two in enumerate(zip(one, other)) if two[0] != two[1]}
            told = None
            if len(one) == len(other) and len(unlike) == 1:
                told = next(tuple(sorted(two)) for two in zip(one, other) if two[0] != two[1])
            self.assertEqual(spelled(one, tuple(other)), told)
            self.assertEqual(spelled(other=one, one=other), told)
        self.assertIsNone(spelled(["a"], ["a", "b"]))
        self.assertIsNone(spelled(["a", "b"], ["b"]))
        self.assertEqual(spelled(["a"] * 6, ["a"] * 5 + ["b"]), ("a", "b"))
        for value in NO_WORDS:
            self.refuses(BadWord("one"), spelled, value, value)
            self.refuses(BadWord("other"), spelled, ["a"], value)

    def test_facts(self):
        for one, other in (("a", "b"), ("b", "a"), ("z9", "b")):
            least, most = sorted((one, other))
            self.assertEqual(beside_fact(one, other), Fact([Saying("row", one, other), Saying("column", one, other)]))
            column, row = apart_facts(other=other, one=one)
            self.assertEqual((str(column), str(row)), (f"not column {least} {most}", f"not row {least} {most}"))
            self.assertTrue(column.is_single and row.is_single and isinstance(apart_facts(one, other), tuple))
        for call in (beside_fact, apart_facts):
            for value in NO_NAMES:
                self.refuses(NoSign(value), call, value, value)
                self.refuses(NoSign(value), call, "a", value)
            self.refuses(Twice("a"), call, "a", "a")

    def test_tied_book(self):
        draw = random.Random(4)
        for _ in range(30):
            told = draw.sample(twos(ABCD), 6)
            beside, apart = told[:draw.randint(0, 4)], told[4:draw.randint(4, 6)]
            beside = beside + beside[:1]
            book = tied_book(draw.sample(ABCD, 4), [list(two)[::-1] for two in beside], apart)
            facts = [beside_fact(*two) for two in beside] + [fact for two in apart for fact in apart_facts(*two)]
            self.assertEqual(book, Book(ABCD, facts))
            for grid in all_grids(ABCD):
                pairs = pairs_of(grid)
                self.assertIs(grid.keeps(book), all(two in pairs for two in beside) and not any(two in pairs for two in apart))
        self.assertEqual(tied_book(apart=[], beside=(), signs=["q"]), Book(["q"]))

    def test_books_that_no_grid_keeps(self):
        for ties in (CLAW, DIAMOND, FOUR_RING, FIVE_RING):
            apart = [two for two in twos(ties.signs) if two not in ties.pairs]
            if len(ties) + 2 * len(apart) <= 12:
                self.assertIs(bool(grid_of(tied_book(ties.signs, ties.pairs, apart))), bar_of(ties) is None)

    def test_tied_book_errors(self):
        right = {"signs": ABCD, "beside": [("a", "b")], "apart": [("c", "d")]}
        many = [("a", "b")] * 13
        self.refuses_in_order(tied_book, right, [
            (BadBook("signs"), {"signs": []}), (BadTies("beside"), {"beside": ["ab"]}), (BadTies("apart"), {"apart": None}),
            (TooMany("signs", 8), {"signs": [*EIGHT, "i"]})])
        self.refuses(Twice("a"), tied_book, ["b", "a", "a"], None, None)
        for value in NO_LISTS + ["ab", [("a",)], [("a", "b", "c")], [("a", 1)]]:
            self.refuses(BadTies("beside"), tied_book, ["a"], value, value)
            self.refuses(BadTies("apart"), tied_book, ["a"], [], value)
        self.refuses(NoSign("x"), tied_book, ABCD, [("a", "a"), ("b", "x")], [("y", "y")])
        self.refuses(NoSign("y"), tied_book, ABCD, [("a", "a")], [("c", "c"), ("y", "y")])
        self.refuses(Twice("a"), tied_book, ABCD, [("a", "b"), ("a", "a")], [("c", "c")])
        self.refuses(Twice("c"), tied_book, [*EIGHT, "i"], many, [("c", "d"), ("c", "c")])
        self.refuses(TooMany("facts", 12), tied_book, ABCD, many, [])
        self.refuses(TooMany("facts", 12), tied_book, ABCD, [], many[:7])
        self.refuses(TooMany("signs", 8), tied_book, [*EIGHT, "i"], many, many)
        self.assertEqual(len(tied_book(ABCD, many[:12], [])), 12)
        self.assertEqual(len(tied_book(ABCD, many[:2], many[:5])), 12)


class Laying(Case):
    def check(self, ties, grids):
        """grids: all that have the ties."""
        found, bar = laid(ties), bar_of(ties)
        self.assertEqual((found, bar), (laid(ties=ties), bar_of(ties=ties)))
        self.assertIs(shows_laid(ties, found), True)
        self.assertEqual(many_laid(ties=ties), len(grids))
        self.assertEqual(all_laid(ties=ties), tuple(sorted(grids, key=lambda grid: (grid.rows, grid.columns))))
        self.assertEqual(hanging(ties=ties), lots_of(ties))
        if grids:
            self.assertEqual((type(found), found.kind, bool(found), bar), (Laid, "laid", True, None))
            self.assertIn(found.grid, grids)
            self.assertEqual(len(grids), 2 ** len([lot for lot in lots_of(ties) if len(lot) > 1]))
            return "laid"
        self.assertEqual(found, bar)
        self.assertTrue(is_right_bar(ties, bar))
        self.assertEqual((bar.kind, bool(bar)), (type(bar).__name__.lower(), False))
        return bar.kind

    def test_all_of_up_to_four_signs(self):
        for many in (1, 2, 3, 4):
            for size in range(len(twos(EIGHT[:many])) + 1):
                for pairs in itertools.combinations(twos(EIGHT[:many]), size):
                    self.check(Ties(EIGHT[:many], pairs), grids_by_ties(many).get(pairs, []))

    def test_drawn_of_five_and_six_signs(self):
        draw = random.Random(5)
        kinds = []
        for many, count in ((5, 200), (6, 60)):
            for ties in [drawn_ties(draw, many) for _ in range(count)] + [ties_of(drawn_grid(draw, many)) for _ in range(count)]:
                kinds.append(self.check(ties, grids_by_ties(many).get(ties.pairs, [])))
        kinds.append(self.check(FIVE_RING, []))
        self.assertEqual(kinds[-1], "ring")
        self.assertTrue(all(kinds.count(kind) > 10 for kind in ("laid", "claw", "diamond")), kinds)

    def test_drawn_grids_of_eight_signs(self):
        draw = random.Random(6)
        for many in (7, 8):
            for grid in [drawn_grid(draw, many, draw.choice((3, 4, 6, 8))) for _ in range(40)]:
                ties = ties_of(grid)
                found = all_laid(ties)
                self.assertIn(grid, found)
                self.assertEqual(many_laid(ties), len(found))
                self.assertEqual(len({str(one) for one in found}), 2 ** len([lot for lot in lots_of(ties) if len(lot) > 1]))
                self.assertTrue(all(pairs_of(one) == ties.pairs for one in found))
                self.assertEqual((bar_of(ties), shows_laid(ties, laid(ties))), (None, True))
                self.check_crossed(grid)

    def test_rings_of_seven(self):
        draw = random.Random(7)
        for many in (7, 8):
            for _ in range(10):
                signs = draw.sample(EIGHT[:many], 7)
                ring = [*zip(signs, signs[1:]), (signs[0], signs[-1])]
                for more in ([], [(sign, EIGHT[7]) for sign in signs[:2] if many == 8 and EIGHT[7] not in signs]):
                    ties = Ties(EIGHT[:many], ring + more)
                    self.assertTrue(is_right_bar(ties, bar_of(ties)))
                    self.assertEqual((many_laid(ties), all_laid(ties), shows_laid(ties, bar_of(ties))), (0, (), True))
                chord = Ties(EIGHT[:many], ring + [(signs[0], signs[3])])
                self.assertTrue(is_right_bar(chord, bar_of(chord)))
        for size in (4, 6, 8):
            even = Ties(EIGHT[:size], [*zip(EIGHT, EIGHT[1:size]), ("a", EIGHT[size - 1])])
            self.assertEqual((bar_of(even), many_laid(even)), (None, 2))

    def check_crossed(self, grid):
        for sign in grid.signs:
            lot = next(lot for lot in lots_of(ties_of(grid)) if sign in lot)
            other = lot_crossed(sign=sign, grid=grid)
            self.assertEqual(lot_crossed(other, sign), grid)
            self.assertEqual(pairs_of(other), pairs_of(grid))
            for tie in pairs_of(grid):
                self.assertIs(side_in(other, tie) == side_in(grid, tie), tie[0] not in lot)

    def test_lot_crossed(self):
        draw = random.Random(8)
        for grid in draw.sample(all_grids(FIVE), 60) + list(all_grids(ABCD[:3])):
            self.check_crossed(grid)
        grid = Grid(["a", "b"], (0, 1), (0, 1))
        self.assertEqual(lot_crossed(grid, "a"), grid)
        for value in (None, "x", 0, ["a"], SAME):
            self.refuses(NoSign(value), lot_crossed, grid, value)
        for value in (None, 0, "a", SAME, FOUR_RING):
            self.refuses(BadGrid("grid"), lot_crossed, value, "x")

    def test_errors(self):
        for call in (bar_of, left_out, hanging, laid, all_laid, many_laid):
            for value in NO_TIES:
                self.refuses(BadTies("ties"), call, value)
        for value in NO_TIES:
            self.refuses(BadTies("ties"), sides, value, None, None)
            self.refuses(BadTies("ties"), shows_laid, value, None)
            self.refuses(BadTies("ties"), shows_left_out, value, None)
            self.refuses(BadTies("ties"), shows_sides, value, None, None, None)


class Sides(Case):
    def check(self, ties, grids):
        for one, other in itertools.product(ties.pairs, repeat=2):
            found = sides(ties, one, other[::-1])
            self.assertEqual(found, sides(other=list(other), tie=one[::-1], ties=ties))
            self.assertIs(shows_sides(ties, one, other, found), True)
            if not any(one[0] in lot and other[0] in lot for lot in lots_of(ties)):
                self.assertEqual((type(found), found.kind, bool(found)), (Loose, "loose", True))
                self.assertEqual(found, Loose(next(lot for lot in lots_of(ties) if one[0] in lot)))
                self.assertEqual({side_in(grid, one) == side_in(grid, other) for grid in grids}, {True, False})
                continue
            is_one = {side_in(grid, one) == side_in(grid, other) for grid in grids}
            self.assertEqual(is_one, {type(found) is OneSide})
            self.assertEqual((found.kind, bool(found)), ("oneside", True) if is_one == {True} else ("twosides", False))
            self.check_walk(ties, one, other, found)

    def check_walk(self, ties, one, other, found):
        walk = found.walk
        self.assertEqual((walk[0], walk[-1], len(set(walk))), (one, other, len(walk)))
        turns = 0
        for tie, following in zip(walk, walk[1:]):
            self.assertEqual(len(set(tie) & set(following)), 1)
            turns += tuple(sorted(set(tie) ^ set(following))) not in ties.pairs
        self.assertTrue(set(walk) <= set(ties.pairs))
        self.assertEqual(turns % 2, 0 if type(found) is OneSide else 1)

    def test_drawn(self):
        draw = random.Random(9)
        for many in (2, 3, 4, 5):
            for pairs, grids in draw.sample(sorted(grids_by_ties(many).items()), min(40, len(grids_by_ties(many)))):
                self.check(Ties(EIGHT[:many], pairs), grids)

    def test_drawn_of_eight_signs(self):
        draw = random.Random(10)
        for grid in [drawn_grid(draw, draw.choice((6, 7, 8))) for _ in range(8)]:
            self.check(ties_of(grid), all_laid(ties_of(grid)))

    def test_one_tie_twice(self):
        self.assertEqual(sides(FOUR_RING, ("a", "b"), ("b", "a")), OneSide([("a", "b")]))

    def test_errors(self):
        right = {"ties": FOUR_RING, "tie": ("a", "b"), "other": ("c", "d")}
        faults = [(BadTies("ties"), {"ties": None}), (BadTies("tie"), {"tie": ("a", "c")}), (BadTies("other"), {"other": ("d", "d")})]
        self.refuses_in_order(sides, right, faults)
        self.refuses_in_order(shows_sides, {**right, "value": None}, faults)
        for value in (None, 0, "ab", [], ["a"], ["a", "b", "c"], [("a", "b")], ("a", "c"), ("a", "x"), ("a", None), (0, 1), SAME,
                      ("a", "a"), {"a": 1, "b": 2}, [SAME, SAME], (["a"], ["b"])):
            for call, more in ((sides, ()), (shows_sides, (None,))):
                self.refuses(BadTies("tie"), call, FOUR_RING, value, value, *more)
                self.refuses(BadTies("other"), call, FOUR_RING, ["b", "a"], value, *more)
        for ties in BARRED:
            self.refuses(Impossible(bar_of(ties)), sides, ties, ties.pairs[0], ties.pairs[1])
            self.refuses(BadTies("other"), sides, ties, ties.pairs[0], ("a", "z"))
            self.assertIs(shows_sides(ties, ties.pairs[0], ties.pairs[1], None), False)


class LeavingOut(Case):
    def check(self, ties, has_grid):
        """has_grid: of a lot of signs whether the others have a grid."""
        found = left_out(ties)
        self.assertEqual((found, type(found), found.kind), (left_out(ties=ties), LeftOut, "leftout"))
        self.assertIs(shows_left_out(ties, found), True)
        fewest = next(size for size in range(9) if any(has_grid(lot) for lot in itertools.combinations(ties.signs, size)))
        self.assertEqual(len(found.signs), fewest)
        self.assertTrue(has_grid(found.signs) and list(found.signs) == sorted(found.signs))
        self.assertEqual(pairs_of(found.grid), ties.without(found.signs).pairs)
        fewer = [ties.without(lot) for lot in itertools.combinations(ties.signs, fewest - 1)] if fewest else []
        self.assertEqual(len(found.bars), len(fewer))
        self.assertTrue(all(is_right_bar(left, bar) for left, bar in zip(fewer, found.bars)))
        return fewest

    def test_drawn_of_up_to_five_signs(self):
        draw = random.Random(11)
        sizes = []
        for many, count in ((1, 1), (2, 2), (3, 8), (4, 40), (5, 60)):
            for ties in [drawn_ties(draw, many) for _ in range(count)]:
                def has_grid(lot):
                    left = ties.without(lot)
                    names = dict(zip(left.signs, EIGHT))
                    return left.renamed(names).pairs in grids_by_ties(len(left.signs))
                sizes.append(self.check(ties, has_grid))
        self.assertEqual({0, 1}, set(sizes))

    def test_drawn_of_eight_signs(self):
        draw = random.Random(12)
        for many in (6, 7, 8):
            for ties in [drawn_ties(draw, many) for _ in range(12)]:
                self.check(ties, lambda lot: bar_of(ties.without(lot)) is None)


class Shows(Case):
    def test_each_bar_of_four_signs(self):
        for size in range(7):
            for pairs in itertools.combinations(twos(ABCD), size):
                ties = Ties(ABCD, pairs)
                for order in itertools.permutations(ABCD):
                    for bar in (Claw(order[0], order[1:]), Diamond(*order[:2], list(order[2:]))):
                        self.assertIs(shows_laid(ties, bar), is_right_bar(ties, bar))

    def test_each_ring(self):
        for ties in (FIVE_RING, *[Ties(FIVE, [two for two in twos(FIVE) if draw_in(two, seed)]) for seed in range(6)]):
            for order in itertools.permutations(FIVE):
                self.assertIs(shows_laid(ties, Ring(order)), is_right_bar(ties, Ring(list(order))))

    def test_other_rings(self):
        seven = BARRED[3]
        self.assertIs(shows_laid(seven, Ring(EIGHT[:7])), True)
        self.assertIs(shows_laid(seven, Ring(EIGHT[3:7] + EIGHT[:3])), True)
        self.assertIs(shows_laid(seven, Ring(EIGHT[6::-1])), True)
        for signs in (EIGHT[:5], EIGHT, ["a", "c", "b", *EIGHT[3:7]], EIGHT[:6], [*EIGHT[:7], "a"], ["a"] * 7, EIGHT[1:]):
            self.assertIs(shows_laid(seven, Ring(signs)), False)
        chord = Ties(EIGHT, [*seven.pairs, ("a", "d")])
        self.assertIs(shows_laid(chord, Ring(EIGHT[:7])), False)
        for size in (3, 4, 6, 8):
            ring = Ties(EIGHT[:size], [*zip(EIGHT, EIGHT[1:size]), ("a", EIGHT[size - 1])])
            self.assertIs(shows_laid(ring, Ring(EIGHT[:size])), False)
        for signs in (None, SAME, "abcde", [], ["a"], [None] * 5, [SAME] * 5, {sign: 1 for sign in FIVE}, FIVE[:4], [*FIVE, "a"],
                      [*FIVE[:4], "x"], [*FIVE[:4], ["e"]], [FIVE], 5):
            self.assertIs(shows_laid(FIVE_RING, Ring(signs)), False)

    def test_bent_bars(self):
        self.assertIs(shows_laid(CLAW, Claw("a", ["d", "b", "c"])), True)
        self.assertIs(shows_laid(DIAMOND, Diamond("b", "a", ("d", "c"))), True)
        for bar in (Claw("b", ["a", "c", "d"]), Claw("a", ["b", "c"]), Claw("a", ["b", "c", "d", "d"]), Claw("a", ["b", "c", "c"]),
                    Claw("a", ["a", "b", "c"]), Claw(None, ["b", "c", "d"]), Claw("a", None), Claw("a", "bcd"), Claw(SAME, SAME),
                    Claw("a", [SAME, "b", "c"]), Claw("a", ["b", "c", "x"]), Claw(["a"], ["b", "c", "d"]), Claw("a", [["b"], "c", "d"])):
            self.assertIs(shows_laid(CLAW, bar), False)
        five = Ties(FIVE, [*DIAMOND.pairs, ("c", "e"), ("d", "e")])
        for bar in (Diamond("a", "c", ["b", "d"]), Diamond("a", "b", ["c"]), Diamond("a", "b", ["c", "c"]), Diamond("a", "b", ["a", "c"]),
                    Diamond("a", "a", ["c", "d"]), Diamond(None, "b", ["c", "d"]), Diamond("a", SAME, ["c", "d"]), Diamond("a", "b", None),
                    Diamond("a", "b", "cd"), Diamond("a", "b", ["c", "d", "d"]), Diamond("c", "d", ["a", "b"]), Diamond("a", "b", ["c", "x"]),
                    Diamond("a", "b", ["c", "e"]), Diamond("c", "e", ["a", "d"]), Diamond("a", "b", [SAME, SAME])):
            self.assertIs(shows_laid(five, bar), False)
        self.assertIs(shows_laid(five, Diamond("a", "b", ["c", "d"])), True)

    def test_laid(self):
        for grid in all_grids(ABCD):
            self.assertIs(shows_laid(FOUR_RING, Laid(grid)), grid in all_laid(FOUR_RING))
        for grid in (None, SAME, [all_laid(FOUR_RING)[0]], "a", Grid(FIVE, (0, 0, 1, 1, 2), (0, 1, 1, 0, 2)),
                     Grid(["a", "b", "c", "e"], (0, 0, 1, 1), (0, 1, 1, 0))):
            self.assertIs(shows_laid(FOUR_RING, Laid(grid)), False)
        grid = all_laid(FOUR_RING)[0]
        for value in (None, True, SAME, grid, Kept(grid), Paper("laid", grid), Denial("claw", "a", ("b", "c", "d")), "laid",
                      LeftOut([], grid, []), OneSide([("a", "b")])):
            self.assertIs(shows_laid(FOUR_RING, value), False)
            self.assertIs(shows_laid(CLAW, value), False)

    def test_walks(self):
        def shows(shape, walk, ties=FOUR_RING, other=("c", "d")):
            return shows_sides(ties, ("b", "a"), other, shape(walk))

        right = [("a", "b"), ("a", "d"), ("c", "d")]
        for walk, is_even in ((right, True), ([("a", "b"), ("b", "c"), ("c", "d")], True), ([list(tie) for tie in right], True),
                              ([*right[:2], ("c", "d"), ("a", "d"), ("c", "d")], True)):
            self.assertIs(shows(OneSide, walk), is_even)
            self.assertIs(shows(TwoSides, walk), not is_even)
        self.assertIs(shows(TwoSides, right[:2], other=("a", "d")), True)
        self.assertIs(shows(OneSide, right[:2], other=("a", "d")), False)
        self.assertIs(shows(OneSide, right[:1], other=("a", "b")), True)
        self.assertIs(shows(TwoSides, right[:1], other=("a", "b")), False)
        for walk in ([("a", "b"), ("c", "d")], right[:2], right[1:], right[::-1], [], None, SAME, [("b", "a"), *right[1:]],
                     [*right[:2], ("d", "c")], [right[0], *right], [*right, right[2]], [("a", "b"), ("a", "c"), ("c", "d")], "ab",
                     [("a", "b"), None, ("c", "d")], [SAME] * 3, [("a", "b"), SAME, ("c", "d")], {0: right[0]}, [right],
                     [("a", "b"), ("a", "x"), ("c", "d")], ["ab", "ad", "cd"], [("a", "b"), ("a", SAME), ("c", "d")], [("a", "b"), ("a", "d", "c"), ("c", "d")]):
            for shape in (OneSide, TwoSides):
                self.assertIs(shows(shape, walk), False)

    def test_walk_from_a_tie_to_itself(self):
        """The walk of one tie is this tie, whatever walk leads back to it: in the ties of all grids of four signs."""
        round_about = 0
        for ties in [FOUR_RING, CLAW, *[ties_of(grid) for grid in all_grids(ABCD)]]:
            for tie in ties.pairs:
                for told in (tie, tie[::-1], list(tie)):
                    self.assertIs(shows_sides(ties, told, tie, OneSide([tie])), True)
                    self.assertIs(shows_sides(ties, tie, told, TwoSides([tie])), False)
                met = [other for other in ties.pairs if other != tie and set(tie) & set(other)]
                walks = [[tie, other, tie] for other in met]
                walks += [[tie, *two, tie] for two in itertools.permutations(met, 2) if set(two[0]) & set(two[1])]
                for walk in [*walks, [tie, tie]]:
                    round_about += 1
                    for shape in (OneSide, TwoSides):
                        self.assertIs(shows_sides(ties, tie, tie[::-1], shape(walk)), False)
        self.assertGreater(round_about, 100)

    def test_walks_without_a_grid(self):
        for shape, walk, is_right in ((OneSide, [("a", "b"), ("a", "c")], False), (TwoSides, [("a", "b"), ("a", "c")], True),
                                      (OneSide, [("a", "b"), ("a", "d"), ("a", "c")], True)):
            self.assertIs(shows_sides(CLAW, ("a", "b"), ("a", "c"), shape(walk)), is_right)
        triangle = Ties(ABCD, [("a", "b"), ("a", "c"), ("b", "c"), ("c", "d")])
        for walk, turns in (([("a", "b"), ("a", "c")], 0), ([("a", "b"), ("b", "c"), ("a", "c")], 0)):
            self.assertIs(shows_sides(triangle, ("a", "b"), ("a", "c"), OneSide(walk)), True)
            self.assertIs(shows_sides(triangle, ("a", "b"), ("a", "c"), TwoSides(walk)), False)

    def test_loose(self):
        ties = Ties(EIGHT[:6], [("a", "b"), ("b", "c"), ("d", "e")])
        for lot, is_right in ((["a", "b", "c"], True), (("a", "b", "c"), True), (["a", "b"], False), (["c", "b", "a"], False),
                              (["a", "b", "c", "f"], False), (["d", "e"], False), ([], False), (None, False), (SAME, False), ("abc", False),
                              ([SAME] * 3, False), (["a", "b", None], False), (["a", SAME, "c"], False), ({"a": 1, "b": 1, "c": 1}, False)):
            self.assertIs(shows_sides(ties, ("a", "b"), ("d", "e"), Loose(lot)), is_right, lot)
            self.assertIs(shows_sides(ties, ("a", "b"), ("c", "b"), Loose(lot)), False)
        two = Ties(EIGHT[:7], [*CLAW.pairs, ("e", "f")])
        self.assertIs(shows_sides(two, ("a", "b"), ("f", "e"), Loose(ABCD)), True)
        self.assertIs(shows_sides(two, ("e", "f"), ("a", "b"), Loose(ABCD)), False)

    def test_other_values_of_sides(self):
        walk = [("a", "b"), ("a", "d"), ("c", "d")]
        for value in (None, True, SAME, walk, Paper("oneside", walk), Denial("twosides", walk), Laid(walk), "oneside", Paper("loose", ABCD)):
            self.assertIs(shows_sides(FOUR_RING, ("a", "b"), ("c", "d"), value), False)

    def test_left_out(self):
        ring = Ring(FIVE)
        for sign in FIVE:
            left = FIVE_RING.without([sign])
            for grid in (*all_laid(left), *all_laid(FIVE_RING.without(["a"] if sign != "a" else ["b"]))):
                is_right = grid in all_laid(left)
                self.assertIs(shows_left_out(FIVE_RING, LeftOut([sign], grid, [ring])), is_right)
        grid = laid(FIVE_RING.without(["a"])).grid
        self.assertIs(shows_left_out(value=LeftOut(("a",), grid, (Ring(FIVE[::-1]),)), ties=FIVE_RING), True)
        for signs in ([], ["a", "a"], ["b"], ["a", "b"], None, "a", SAME, [SAME], ["x"], [["a"]], {"a": 1}, FIVE, ["b", "a"]):
            self.assertIs(shows_left_out(FIVE_RING, LeftOut(signs, grid, [ring])), False)
        for bars in ([], [ring, ring], None, SAME, [None], [SAME], ring, [Ring(FIVE[:4])], [CLAW], "a", [LeftOut([], grid, [])]):
            self.assertIs(shows_left_out(FIVE_RING, LeftOut(["a"], grid, bars)), False)
        for bad in (None, SAME, "a", [grid], Laid(grid), Grid(FIVE, (0, 0, 1, 1, 2), (0, 1, 1, 0, 2))):
            self.assertIs(shows_left_out(FIVE_RING, LeftOut(["a"], bad, [ring])), False)
        for value in (None, True, SAME, grid, Laid(grid), ring, Paper("leftout", ("a",), grid, (ring,)), Kept(grid)):
            self.assertIs(shows_left_out(FIVE_RING, value), False)

    def test_left_out_of_two(self):
        ties = Ties(EIGHT, [*CLAW.pairs, *[(EIGHT[4], sign) for sign in EIGHT[5:]]])
        found = left_out(ties)
        self.assertEqual((len(found.signs), len(found.bars)), (2, 8))
        for at in range(8):
            for bar in (Claw("a", ["b", "c", "d"]), Claw("e", ["f", "g", "h"])):
                bars = [*found.bars[:at], bar, *found.bars[at + 1:]]
                self.assertIs(shows_left_out(ties, LeftOut(found.signs, found.grid, bars)), EIGHT[at] not in (bar.sign, *bar.others))
        self.assertIs(shows_left_out(ties, LeftOut(found.signs, found.grid, found.bars[::-1])), False)
        self.assertIs(shows_left_out(ties, LeftOut(found.signs[::-1], found.grid, found.bars)), False)
        self.assertIs(shows_left_out(ties, LeftOut(found.signs, found.grid, found.bars[:7])), False)

    def test_nothing_left_out(self):
        grid = laid(FOUR_RING).grid
        self.assertIs(shows_left_out(FOUR_RING, LeftOut([], grid, [])), True)
        self.assertIs(shows_left_out(FOUR_RING, LeftOut([], grid, [Ring(ABCD)])), False)
        part = laid(FOUR_RING.without(["a"])).grid
        for bars in ([], [Ring(ABCD)], [Claw("a", ["b", "c", "d"])]):
            self.assertIs(shows_left_out(FOUR_RING, LeftOut(["a"], part, bars)), False)

    def test_papers(self):
        for paper, parts in ((Claw(others=[1], sign=0), (0, (1,))), (Diamond(tips=[2], other=1, one=0), (0, 1, (2,))),
                             (Ring(signs=[1]), ((1,),)), (LeftOut(bars=[3], grid=2, signs=[1]), ((1,), 2, (3,))),
                             (OneSide(walk=[["a"]]), ((("a",),),)), (TwoSides(walk=[]), ((),)), (Loose(lot=["a"]), (("a",),))):
            self.assertEqual((paper.parts, paper.kind), (parts, type(paper).__name__.lower()))


def draw_in(two, seed):
    """Some pairs of five signs, others with each seed."""
    return random.Random(str(two) + str(seed)).random() < 0.5


if __name__ == "__main__":
    unittest.main()
