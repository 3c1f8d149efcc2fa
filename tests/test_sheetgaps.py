"""Words in the cells of sheets: beside a plain listing of all cuttings and all grids."""

import itertools
import random
import unittest

from mutesigns.books import Book
from mutesigns.check_sheets import shows_reading, shows_word
from mutesigns.cuttings import Cutting, cuttings
from mutesigns.errors import BadBook, BadSheet, BadWord, Impossible, NoEnding, NoSign, NoStem, TooMany
from mutesigns.facts import Fact
from mutesigns.grids import Grid
from mutesigns.papers import Denial, Paper
from mutesigns.possible import NoGrid
from mutesigns.refusing import tree_with
from mutesigns.sayings import Saying
from mutesigns.sheetgaps import NeverWord, NoReading, OpenWord, Reading, SureWord, reading_of, word_for, words_in
from mutesigns.sheets import Sheet
from oracles import drawn_sayings, is_right_tree, kept_grids
from support import NO_LISTS, NO_NAMES, SAME, Case
from test_books import EIGHT
from test_cuttings import cells_of, cut_sheet, parts, plain_cuttings, plain_sayings, plain_seams
from test_facts import fact_of, sayings_of
from test_grids import all_grids
from test_sheets import SHEET

ABCD = ["a", "b", "c", "d"]
PLAIN = Book(["k", "m", "n", "u", "v"])
KNOWN = Book(["k", "m", "n", "p", "u", "v"], [Saying("row", "m", "p"), Saying("column", "n", "p")])
NO_BOOKS = [None, 0, "a : - - : -", ["a"], SAME, SHEET]
NO_SHEETS = [None, 0, str(SHEET), [SHEET], SAME, PLAIN, SHEET.cells]


def new_sign(book):
    return next(f"n{number}" for number in itertools.count() if f"n{number}" not in book.signs)


class Cell:
    """What a cutting tells of a cell, told plainly."""

    def __init__(self, sheet, bodies, tails, stem, ending):
        words, told = cells_of(sheet), plain_seams(sheet, bodies)
        self.bodies, self.tails = bodies, tails
        mine = next(cell for cell in words if cell[0] == stem)
        its = next(cell for cell in words if cell[1] == ending)
        body, tail = bodies[sheet.stems.index(stem)], tails[sheet.endings.index(ending)]
        self.begin, self.end = words[mine][:body], words[its][len(words[its]) - tail:]
        self.first, self.second = told[mine], told[its]
        self.sayings = plain_sayings(sheet, bodies)

    def word(self, sign):
        return (*self.begin, sign, *self.end)

    def agrees(self, word):
        return any(self.word(sign) == tuple(word) for sign in word)

    def sign(self, word):
        return word[len(self.begin)]

    def word_sayings(self, sign):
        """First that it begins like the first seam, then that it ends like the second one."""
        return [Saying(side, sign, seam) for side, seam in (("row", self.first), ("column", self.second)) if seam != sign]

    def word_in(self, grid):
        place = (grid.place(self.first)[0], grid.place(self.second)[1])
        return self.word(next((sign for sign in grid.signs if grid.place(sign) == place), None))

    def against(self, book, word):
        """The sayings of each tree of a row for a word that agrees."""
        sign = self.sign(word)
        if sign is None:
            return [self.word_sayings(one) for one in book.signs]
        return [[saying.contrary()] for saying in self.word_sayings(sign)]


def cells_by(sheet, stem, ending):
    return [Cell(sheet, bodies, tails, stem, ending) for bodies, tails in plain_cuttings(sheet)]


def readings_by(book, sheet):
    """All pairs of a cutting and a grid."""
    kept = kept_grids(book)
    return [(two, grid) for two in plain_cuttings(sheet) for grid in kept
            if all(grid.holds(one) for one in plain_sayings(sheet, two[0]))]


def drawn_read(draw, signs, most_facts=2, bounds=(None, None, 2, 3)):
    """A book and a sheet of its signs that at most 36 cuttings fit."""
    sheet = cut_sheet(draw, draw.choice((1, 2, 2, 3)), signs, draw.choice((0.3, 0.6)), (0, 1, 1))
    while len(plain_cuttings(sheet)) > 36:
        sheet = cut_sheet(draw, 2, signs, 0.3, (0, 1))
    facts = [Fact(drawn_sayings(draw, signs, draw.choice((1, 1, 2)))) for _ in range(draw.randint(0, most_facts))]
    return Book(signs, facts, draw.choice(bounds), draw.choice(bounds)), sheet


def drawn_reads(seed, count):
    """Books and sheets: some drawn at large, some with three unlike seams and a gap, some with signs beyond the sheet."""
    draw = random.Random(seed)
    found = [drawn_read(draw, ABCD[:draw.choice((2, 3, 4, 4))]) for _ in range(count // 2)]
    for _ in range(count // 4):
        body, seams = draw.choice(([], ["a"])), draw.sample("abc", 3)
        sheet = Sheet(["s", "t"], ["e", "f"], [[[*body, seams[0]], [*body, seams[1]]], [[seams[2]], None]])
        facts = draw.choice(([], [fact_of("not row a d")], [fact_of("not column b d", "row a d")]))
        found.append((Book(ABCD if facts else ABCD[:3], facts), sheet))
    for _ in range(count // 4):
        sheet = cut_sheet(draw, 2, "abc", 0.4, draw.choice(((0,), (0, 1))))
        facts = [Fact(drawn_sayings(draw, ABCD, draw.choice((1, 2, 2)))) for _ in range(draw.choice((0, 0, 1, 2)))]
        book = Book(sheet.signs, [], draw.choice((None, 3)))
        found.append((Book(ABCD, facts, draw.choice((None, 2))) if draw.random() < 0.7 else book, sheet))
    return [one for one in found if len(plain_cuttings(one[1])) <= 36]


class Readings(Case):
    def check(self, book, sheet):
        found, all_found = reading_of(book, sheet), readings_by(book, sheet)
        self.assertEqual(found, reading_of(sheet=sheet, book=book))
        self.assertIs(shows_reading(book, sheet, found), True)
        if all_found:
            self.assertEqual((type(found), found.kind, bool(found)), (Reading, "reading", True))
            self.assertEqual(parts(found.cutting), all_found[0][0])
            self.assertIn((all_found[0][0], found.grid), all_found)
            return "read"
        self.assertEqual((type(found), found.kind, bool(found)), (NoReading, "noreading", False))
        told = plain_cuttings(sheet)
        self.assertEqual(len(found.trees), len(told))
        for (bodies, tails), tree in zip(told, found.trees):
            self.assertTrue(is_right_tree(book, plain_sayings(sheet, bodies), tree))
        return "none" if told else "uncut"

    def test_drawn(self):
        kinds = [self.check(book, sheet) for book, sheet in drawn_reads(1, 200)]
        self.assertTrue(all(kinds.count(kind) > 10 for kind in ("read", "none")), kinds)

    def test_no_cutting(self):
        sheet = Sheet(["s"], ["e", "f"], [[["a", "b"], ["b", "a", "a", "a"]]])
        uncut = Sheet(["s", "t"], ["e", "f"], [[["a"], ["b", "b"]], [["a"], ["c"]]])
        self.assertEqual(self.check(Book(ABCD), uncut), "uncut")
        self.assertEqual(reading_of(Book(ABCD), uncut).trees, ())
        self.refuses(Impossible(NoReading([])), words_in, Book(ABCD), uncut, "s", "e")
        self.refuses(Impossible(NoReading([])), word_for, Book(ABCD), uncut, "s", "e", ["a"])
        self.assertEqual(self.check(Book(ABCD), sheet), "read")

    def test_the_first_cutting_that_has_one(self):
        word = ["a", "b", "a", "b"]
        sheet = Sheet(["s", "t"], ["e"], [[word], [["c", "d", "a", "b"]]])
        book = Book(ABCD, sayings_of("not column a c"))
        self.assertEqual([parts(one) for one in cuttings(sheet)], [((1, 1), (2,)), ((2, 2), (1,)), ((3, 3), (0,))])
        self.assertEqual(reading_of(book, sheet).cutting, Cutting([1, 1], [2]))
        torn = book.with_fact(Saying("column", "b", "d", False))
        self.assertEqual(reading_of(torn, sheet).cutting, Cutting([2, 2], [1]))

    def test_a_book_that_no_grid_keeps(self):
        for book in (Book(ABCD, [], 1, 2), Book(ABCD, sayings_of("row a b", "column a b"))):
            self.assertEqual(self.check(book, Sheet(["s"], ["e"], [[["a", "b"]]])), "none")


class Words(Case):
    def check(self, book, sheet, stem, ending, draw):
        """Returns the kinds of the papers of all words asked."""
        cells = {(cell.bodies, cell.tails): cell for cell in cells_by(sheet, stem, ending)}
        told = [(two, grid, cells[two].word_in(grid)) for two, grid in readings_by(book, sheet)]
        words = [cell.word(sign) for cell in cells.values() for sign in (*book.signs, None)]
        least = book.signs[0]
        asked = list(dict.fromkeys(words)) + [(least,) * 11, (None,), (*words[0], least), words[0][1:] or (least, least)]
        if not told:
            self.refuses(Impossible(reading_of(book, sheet)), words_in, book, sheet, stem, ending)
            self.refuses(Impossible(reading_of(book, sheet)), word_for, book, sheet, stem, ending, asked[0])
            return []
        standing = list(dict.fromkeys(word for word in words if any(one[2] == word for one in told)))
        by_cuttings = [cell.word(sign) for two, cell in cells.items() for sign in (*book.signs, None)
                       if any(one[0] == two and one[2] == cell.word(sign) for one in told)]
        self.assertEqual(words_in(book, sheet, stem, ending), tuple(dict.fromkeys(by_cuttings)))
        self.assertEqual(words_in(ending=ending, stem=stem, sheet=sheet, book=book), tuple(dict.fromkeys(by_cuttings)))
        self.assertEqual(set(standing), set(by_cuttings))
        return [self.check_word(book, sheet, (stem, ending), list(cells.values()), told, word)
                for word in draw.sample(asked, min(len(asked), 5)) + standing[:2]]

    def check_word(self, book, sheet, cell, cells, told, word):
        found = word_for(book, sheet, *cell, word)
        self.assertEqual(found, word_for(word=list(word), ending=cell[1], stem=cell[0], sheet=sheet, book=book))
        self.assertIs(shows_word(book, sheet, *cell, word, found), True)
        seen = {one[2] == word for one in told}
        self.assertEqual((found.kind, bool(found)),
                         {(True,): ("sureword", True), (False,): ("neverword", False)}.get(tuple(seen), ("openword", True)))
        if found.kind == "sureword":
            self.check_sure(book, cells, word, found)
        elif found.kind == "neverword":
            self.check_never(book, cells, word, found)
        else:
            self.assertEqual(type(found), OpenWord)
            for reading, is_word in ((found.one, True), (found.other, False)):
                self.assertIs(type(reading), Reading)
                self.assertTrue(any((parts(reading.cutting), reading.grid) == one[:2] and (one[2] == word) == is_word for one in told))
        return found.kind if None not in word else found.kind + " new"

    def check_sure(self, book, cells, word, found):
        self.assertEqual((type(found), len(found.rows)), (SureWord, len(cells)))
        for cell, row in zip(cells, found.rows):
            if not any(all(grid.holds(one) for one in cell.sayings) for grid in kept_grids(book)):
                self.assertEqual(len(row), 1)
                self.assertTrue(is_right_tree(book, cell.sayings, row[0]))
            else:
                self.assertTrue(cell.agrees(word))
                ways = cell.against(book, word)
                self.assertEqual(len(row), len(ways))
                self.assertTrue(all(is_right_tree(book, [*cell.sayings, *way], tree) for way, tree in zip(ways, row)))

    def check_never(self, book, cells, word, found):
        self.assertEqual((type(found), len(found.trees)), (NeverWord, len(cells)))
        for cell, tree in zip(cells, found.trees):
            if not cell.agrees(word):
                self.assertIsNone(tree)
            else:
                sign = cell.sign(word)
                wider = book.with_sign(new_sign(book)) if sign is None else book
                told = cell.word_sayings(new_sign(book) if sign is None else sign)
                self.assertTrue(is_right_tree(wider, [*cell.sayings, *told], tree))

    def test_drawn(self):
        draw, kinds = random.Random(2), []
        for book, sheet in drawn_reads(3, 170):
            cell = draw.choice(sheet.gaps) if sheet.gaps else (sheet.stems[0], sheet.endings[0])
            kinds += self.check(book, sheet, *cell, draw)
        sorts = [sort + new for sort in ("sureword", "neverword", "openword") for new in ("", " new")]
        self.assertTrue(all(kinds.count(sort) > 5 for sort in sorts), {sort: kinds.count(sort) for sort in sorts})

    def test_cells_that_have_a_word(self):
        draw = random.Random(4)
        for book, sheet in drawn_reads(5, 60):
            cell, word = draw.choice(list(cells_of(sheet).items()))
            if readings_by(book, sheet):
                self.assertEqual(words_in(book, sheet, *cell), (word,))
                self.assertEqual(word_for(book, sheet, *cell, word).kind, "sureword")
            self.check(book, sheet, *cell, draw)

    def test_of_the_document(self):
        self.assertEqual(words_in(PLAIN, SHEET, "two", "b"), (("v", "u"), ("v", "v"), ("v", None)))
        self.assertEqual(words_in(PLAIN, SHEET, "one", "b"), (("u", "n"),))
        self.assertEqual(word_for(KNOWN, SHEET, "two", "b", ("v", None)).kind, "neverword")
        row, column = word_for(KNOWN, SHEET, "two", "b", ["v", "p"]).rows[0]
        self.assertEqual((row, column), ((("apart", "row", "m", "p"),), (("apart", "column", "n", "p"),)))

    def test_new_signs_of_other_names(self):
        book = Book(["n0", "n1", "n3", "a"], sayings_of("row a n0"))
        sheet = Sheet(["s", "t"], ["e", "f"], [[["a"], ["n0"]], [["n1"], None]])
        never = word_for(Book(book.signs, [*book.facts, *sayings_of("column n0 n3", "row n1 n3")]), sheet, "t", "f", [None])
        self.assertEqual(never.trees, ((("place", "n2", "n3"),),))
        self.check(book, sheet, "t", "f", random.Random(6))

    def test_bars_of_a_new_one(self):
        sheet = Sheet(["s", "t"], ["e", "f"], [[["a"], ["b"]], [["c"], None]])
        full = Book(ABCD, [], 2, 2)
        self.assertEqual(words_in(full, sheet, "t", "f"), (("d",),))
        self.assertEqual(words_in(full.bounded(2, 3), sheet, "t", "f"), (("d",), (None,)))
        one_of_two = Book([*ABCD, "e"], [fact_of("row c d", "row c e"), *sayings_of("column b d", "column b e")])
        self.assertEqual(words_in(one_of_two, sheet, "t", "f"), (("d",), ("e",)))
        self.assertEqual(word_for(one_of_two, sheet, "t", "f", [None]).kind, "neverword")

    def test_words_of_eleven_signs(self):
        sheet = Sheet(["s", "t"], ["e", "f"], [[list("aaaaab"), None], [["c"], list("dccccc")]])
        for bodies, tails in plain_cuttings(sheet):
            word = tuple("aaaaa") + ("a",) + tuple("ccccc")
            self.assertEqual((len(word), bodies[0], tails[1]), (11, 5, 5))
            self.assertIn(word, words_in(Book(ABCD), sheet, "s", "f"))
            self.assertEqual(word_for(Book(ABCD), sheet, "s", "f", word).kind, "openword")
        self.assertEqual(len(plain_cuttings(sheet)), 1)

    def test_crossed(self):
        for book, sheet in drawn_reads(7, 40):
            if readings_by(book, sheet):
                for stem, ending in sheet.gaps[:2]:
                    turned = {word[::-1] for word in words_in(book, sheet, stem, ending)}
                    self.assertEqual(set(words_in(book.crossed(), sheet.crossed(), ending, stem)), turned)

    def test_a_fact_more(self):
        draw = random.Random(8)
        for book, sheet in drawn_reads(9, 40):
            more = book.with_fact(Fact(drawn_sayings(draw, book.signs, 1))) if len(book.signs) > 1 else book
            if readings_by(more, sheet):
                for cell in sheet.gaps[:2]:
                    self.assertTrue(set(words_in(more, sheet, *cell)) <= set(words_in(book, sheet, *cell)))

    def test_more_signs_than_the_sheet(self):
        sheet = Sheet(["s", "t"], ["e", "f"], [[["a"], ["b"]], [["c"], None]])
        seven = Book(EIGHT[:7], sayings_of("row a b", "column a c", "row c g", "column b g"))
        self.assertEqual(words_in(seven, sheet, "t", "f"), (("g",),))
        self.assertEqual(word_for(seven, sheet, "t", "f", [None]).kind, "neverword")
        self.assertEqual(words_in(Book(EIGHT[:7]), sheet, "t", "f"), tuple((sign,) for sign in (*EIGHT[3:7], None)))
        five = Book(EIGHT[:5], [fact_of("row a d", "row a e")])
        self.check(five, sheet, "t", "f", random.Random(10))

    def test_large_ones(self):
        six = ["a"] * 6
        sheet = Sheet(["s", "t"], ["e", "f"], [[six, None], [None, six]])
        for book in (Book(EIGHT[:7]), Book(EIGHT[:5], [fact_of("row a b", "column c d")], 4, 4)):
            lengths = (6, 5, 4, 3, 2, 1, 7, 8, 9, 10, 11)
            self.assertEqual(words_in(book, sheet, "s", "f"), tuple(("a",) * many for many in lengths))
            self.assertIs(shows_word(book, sheet, "s", "f", ["a"] * 6, word_for(book, sheet, "s", "f", ["a"] * 6)), True)


class ShowsReading(Case):
    def setUp(self):
        self.sheet = Sheet(["s", "t"], ["e"], [[["a", "b"]], [["c", "b"]]])
        self.book = Book(["a", "b", "c"], sayings_of("not row a c"))
        self.cuts = cuttings(self.sheet)

    def test_each(self):
        self.assertEqual([parts(cut) for cut in self.cuts], [((0, 0), (1,)), ((1, 1), (0,))])
        for cutting in [*self.cuts, Cutting([0, 1], [0]), Cutting([1, 1], [1]), Cutting([0, 0], [1, 1]), Cutting([0], [1])]:
            for grid in all_grids(self.book.signs):
                is_right = cutting in self.cuts and grid.keeps(self.book)
                if cutting == self.cuts[0]:
                    is_right = is_right and grid.are_alike("column", "a", "c")
                self.assertIs(shows_reading(self.book, self.sheet, Reading(cutting, grid)), is_right)

    def test_bent(self):
        right = reading_of(self.book, self.sheet)
        for cutting in (None, SAME, ((0, 0), (1,)), self.sheet, right, "cutting"):
            self.assertIs(shows_reading(self.book, self.sheet, Reading(cutting, right.grid)), False)
        for grid in (None, SAME, str(right.grid), Grid(["a", "b"], (0, 1), (0, 0)), Grid(["a", "b", "d"], (0, 1, 1), (0, 1, 0)), right):
            self.assertIs(shows_reading(self.book, self.sheet, Reading(right.cutting, grid)), False)
        for value in (None, True, SAME, right.parts, Paper("reading", *right.parts), Denial("noreading", ()), "reading",
                      Reading(right.grid, right.cutting), NoGrid([["place", "a", "b"]])):
            self.assertIs(shows_reading(self.book, self.sheet, value), False)

    def test_no_readings(self):
        book = Book(["a", "b", "c"], sayings_of("not column a c", "row a b", "column a b"))
        trees = [[["apart", "column", "a", "c"]], [["place", "a", "b"]]]
        for told, is_right in ((trees, True), (tuple(trees), True), ([trees[1]] * 2, True), (trees[::-1], False), (trees[:1], False),
                               ([*trees, trees[1]], False), ([], False), (None, False), (SAME, False), ([None, trees[1]], False),
                               ("ab", False), ([trees[0]] * 2, False), ({0: trees[0], 1: trees[1]}, False), ([SAME] * 2, False)):
            self.assertIs(shows_reading(book, self.sheet, NoReading(told)), is_right, told)
        self.assertIs(shows_reading(self.book, self.sheet, NoReading([[["place", "a", "b"]]] * 2)), False)
        uncut = Sheet(["s", "t"], ["e", "f"], [[["a"], ["b", "b"]], [["a"], ["c"]]])
        for told, is_right in (([], True), (trees[:1], False), (None, False)):
            self.assertIs(shows_reading(self.book, uncut, NoReading(told)), is_right)


class ShowsWord(Case):
    """The cell (two, b): one cutting, seams m and n, the book tells that p begins like m and ends like n."""

    def shows(self, word, value, book=KNOWN):
        return shows_word(book, SHEET, "two", "b", word, value)

    def test_sure(self):
        row, column = [["apart", "row", "m", "p"]], [["apart", "column", "n", "p"]]
        for rows, is_right in (([[row, column]], True), (((tuple(row), column),), True), ([[column, row]], False), ([[row]], False),
                               ([[row, column, column]], False), ([[column]], False), ([[]], False), ([], False), ([row, column], False),
                               ([[row, column]] * 2, False), (None, False), (SAME, False), ([None], False), ("a", False), ([SAME], False),
                               ([[row, row]], False), ([[row, None]], False), ([{0: row, 1: column}], False), ([[row, SAME]], False)):
            self.assertIs(self.shows(["v", "p"], SureWord(rows)), is_right, rows)
        for word in (["v", "k"], ["v", None], ["u", "p"], ["p"], ["v", "p", "p"]):
            self.assertIs(self.shows(word, SureWord([[row, column]])), False)
        self.assertIs(self.shows(["v", "p"], SureWord([[row, column]]), KNOWN.without([1])), False)

    def test_sure_of_a_seam(self):
        sheet = Sheet(["s", "t"], ["e", "f"], [[["a"], ["b"]], [["c"], None]])
        book = Book(["a", "b", "c"], sayings_of("column a b"))
        for ending, stem, word in (("e", "s", ["a"]), ("f", "s", ["b"]), ("e", "t", ["c"])):
            found = word_for(Book(["a", "b", "c"]), sheet, stem, ending, word)
            self.assertIs(shows_word(Book(["a", "b", "c"]), sheet, stem, ending, word, found), True)
        self.assertEqual(word_for(Book(["a", "b", "c"]), sheet, "s", "e", ["a"]).rows, ((),))
        self.assertIs(shows_word(Book(["a", "b", "c"]), sheet, "s", "e", ["a"], SureWord([[]])), True)
        self.assertIs(shows_word(Book(["a", "b", "c"]), sheet, "s", "e", ["b"], SureWord([[]])), False)
        self.assertIs(shows_word(Book(["a", "b", "c"]), sheet, "s", "e", [None], SureWord([[]])), False)
        self.assertIs(shows_word(book, sheet, "t", "f", ["a"], SureWord([[[["place", "a", "b"]]]])), True)

    def test_sure_of_a_new_one(self):
        sheet = Sheet(["s", "t"], ["e", "f"], [[["a"], ["b"]], [["c"], None]])
        book = Book(ABCD, sayings_of("not row c d"))
        ways = [sayings_of("row a c", "column a b"), sayings_of("row b c"), sayings_of("column b c"), sayings_of("row c d", "column b d")]
        told = sayings_of("column a c", "row a b")
        trees = [tree_with(book, told + way) for way in ways]
        self.assertIs(shows_word(book, sheet, "t", "f", [None], SureWord([trees])), True)
        for at, other in itertools.product(range(4), (*trees, [["fact", 0]])):
            is_right = is_right_tree(book, told + ways[at], other)
            bent = [*trees[:at], other, *trees[at + 1:]]
            self.assertIs(shows_word(book, sheet, "t", "f", [None], SureWord([bent])), is_right)
        self.assertIs(shows_word(book, sheet, "t", "f", [None], SureWord([trees[:3]])), False)
        self.assertIs(shows_word(book, sheet, "t", "f", [None], SureWord([trees[::-1]])), False)
        self.assertIs(shows_word(Book(ABCD), sheet, "t", "f", [None], SureWord([trees])), False)

    def test_never(self):
        self.assertIs(self.shows(["v", "k"], NeverWord([[["place", "k", "m"]]]), PLAIN), True)
        for trees in ([None], [], [[["place", "k", "m"]]] * 2, None, SAME, [SAME], "a", [[["place", "k", "u"]]], [[]]):
            self.assertIs(self.shows(["v", "k"], NeverWord(trees), PLAIN), False)
        for word in (["u"], ["u", "k"], ["v"], ["v", "k", "k"], [None], ["k", None], [None, "k"], ["k"] * 11):
            self.assertIs(self.shows(word, NeverWord([None]), PLAIN), True)
            self.assertIs(self.shows(word, NeverWord([[["place", "k", "m"]]]), PLAIN), False)
        for sign in ("u", "v", None):
            for trees in ([None], [[["place", "k", "m"]]], [[["fact", 0]]]):
                self.assertIs(self.shows(["v", sign], NeverWord(trees), PLAIN), False)
        self.assertIs(self.shows(["v", None], NeverWord([[["place", "n0", "p"]]])), True)
        for tree in ([["place", "m", "p"]], [["place", "n1", "p"]], [["place", "n", "p"]], None, [["place", "p", "n0"]]):
            self.assertIs(self.shows(["v", None], NeverWord([tree])), False)

    def test_of_each_cutting(self):
        sheet = Sheet(["s", "t"], ["e", "f"], [[["a", "b"], None], [None, ["c"]]])
        self.assertEqual([parts(cut) for cut in cuttings(sheet)], [((0, 0), (1, 0)), ((1, 0), (0, 0))])
        book = Book(["a", "b", "c"], sayings_of("not row a b", "not column a c", "row b c"))
        place, apart = [["place", "b", "c"]], [["apart", "row", "a", "b"]]
        for bent, is_right in (([place, None], True), ([apart, None], True), ([None, place], False), ([place, place], False),
                               ([None, None], False), ([place], False), ([place, None, None], False), ([], False)):
            self.assertIs(shows_word(book, sheet, "s", "f", ["b"], NeverWord(bent)), is_right, bent)
        self.assertEqual(words_in(book, sheet, "s", "f"), ((None,), ("a", "c")))
        for bent, is_right in (([None, place], True), ([None, [["place", "a", "c"]]], False), ([None, None], False)):
            self.assertIs(shows_word(book, sheet, "s", "f", ["a", "b"], NeverWord(bent)), is_right)
        for bent, is_right in (([None, [["apart", "column", "a", "c"]]], True), ([None, None], False),
                               ([[["apart", "column", "a", "c"]], None], False)):
            self.assertIs(shows_word(book, sheet, "s", "f", ["a", "a"], NeverWord(bent)), is_right)

    def test_open(self):
        cut = cuttings(SHEET)[0]
        told = [(grid, Cell(SHEET, *parts(cut), "two", "b").word_in(grid)) for _, grid in readings_by(PLAIN, SHEET)]
        by_word = {word: Reading(cut, grid) for grid, word in told}
        self.assertEqual(set(by_word), {("v", "u"), ("v", "v"), ("v", None)})
        for (one, mine), (other, its) in itertools.product(by_word.items(), repeat=2):
            for word in by_word:
                self.assertIs(self.shows(word, OpenWord(mine, its), PLAIN), one == word and other != word)
        right = OpenWord(by_word["v", "u"], by_word["v", None])
        self.assertIs(self.shows(["v", "u"], right, PLAIN), True)
        bad_grid = Reading(cut, Grid(PLAIN.signs, (0, 1, 2, 3, 4), (0, 0, 0, 0, 0)))
        misfit = Reading(Cutting([0, 0], [1, 1]), right.other.grid)
        for other in (None, SAME, bad_grid, misfit, right.other.grid, right.other.parts, Paper("reading", *right.other.parts),
                      Reading(cut, None), Reading(None, right.other.grid), NoReading([])):
            self.assertIs(self.shows(["v", "u"], OpenWord(right.one, other), PLAIN), False)
            self.assertIs(self.shows(["v", "k"], OpenWord(right.one, other), PLAIN), False)
            self.assertIs(self.shows(["v", None], OpenWord(other, right.one), PLAIN), False)

    def test_without_a_reading(self):
        book = Book(["k", "m", "n", "u", "v"], sayings_of("not row k n"))
        tree = [["apart", "row", "k", "n"]]
        for word in (["v", "k"], ["v", None], ["u"]):
            self.assertIs(self.shows(word, SureWord([[tree]]), book), True)
            self.assertIs(self.shows(word, NeverWord([None if word == ["u"] else tree]), book), True)
        uncut = Sheet(["s", "t"], ["e", "f"], [[["k"], ["m", "m"]], [["k"], ["n"]]])
        for paper in (SureWord([]), NeverWord([])):
            self.assertIs(shows_word(PLAIN, uncut, "s", "e", ["k"], paper), True)
        self.assertIs(shows_word(PLAIN, uncut, "s", "e", ["k"], SureWord([[tree]])), False)

    def test_other_values(self):
        row = [[["apart", "row", "m", "p"]], [["apart", "column", "n", "p"]]]
        for value in (None, True, SAME, [row], Paper("sureword", [row]), Denial("neverword", [None]), Reading(1, 2), NoReading([None]),
                      "sureword", SureWord(row), NeverWord(row)):
            self.assertIs(self.shows(["v", "p"], value), False)

    def test_papers(self):
        for shape, name in ((SureWord, "rows"), (NeverWord, "trees"), (NoReading, "trees")):
            paper = shape(**{name: [[1]]})
            self.assertEqual((getattr(paper, name), paper.parts, paper.kind), (((1,),), (((1,),),), shape.__name__.lower()))
        self.assertEqual((OpenWord(other=1, one=[2]).parts, Reading(grid=1, cutting=[2]).parts), (((2,), 1), ((2,), 1)))


class GapErrors(Case):
    def faults(self):
        return [(BadBook("book"), {"book": "a"}), (BadSheet("sheet"), {"sheet": None}), (NoStem("b"), {"stem": "b"}),
                (NoEnding("two"), {"ending": "two"}), (BadWord("word"), {"word": []})]

    def test_order(self):
        right = {"book": PLAIN, "sheet": SHEET, "stem": "two", "ending": "b"}
        faults = self.faults()
        lacking = (NoSign("n"), {"book": Book(["k", "u", "w"])})
        large = (TooMany("signs", 7), {"book": Book(["k", "m", "n", "u", "v", "x", "y", "z"])})
        others = (TooMany("signs", 5), {"book": Book(["k", "m", "n", "u", "v", "x"], [], 6)})
        torn = Book(["k", "m", "n", "u", "v"], [], 1, 1)
        impossible = (Impossible(reading_of(torn, SHEET)), {"book": torn})
        for last in (lacking, large, others, impossible):
            self.refuses_in_order(words_in, right, [*faults[:4], last])
            self.refuses_in_order(word_for, {**right, "word": ["v", "k"]}, [*faults, last])
            if last is not impossible:
                self.refuses_in_order(shows_word, {**right, "word": ["v", "k"], "value": None}, [*faults, last])
                self.refuses_in_order(reading_of, {"book": PLAIN, "sheet": SHEET}, [*faults[:2], last])
                self.refuses_in_order(shows_reading, {"book": PLAIN, "sheet": SHEET, "value": None}, [*faults[:2], last])
        word = (NoSign("x"), {"word": ["v", "x", "y", None]})
        self.refuses_in_order(word_for, {**right, "word": ["v", "k"]}, [*faults[:4], word])

    def test_signs(self):
        sheet = Sheet(["s", "t"], ["e", "f"], [[["z", "a"], None], [["y"], ["x"]]])
        for book, first in ((Book(["a"]), "z"), (Book(["z"]), "a"), (Book(["z", "a"]), "y"), (Book(["z", "a", "y"]), "x")):
            self.refuses(NoSign(first), reading_of, book, sheet)
            self.refuses(NoSign(first), words_in, book, sheet, "s", "e")
            self.refuses(NoSign(first), word_for, book, sheet, "s", "e", ["w"])
        book = Book(["a", "x", "y", "z"])
        self.refuses(NoSign("w"), word_for, book, sheet, "s", "e", ["a", None, "w", "v"])
        self.refuses(NoSign("n0"), word_for, book, sheet, "s", "e", ["n0"])
        self.refuses(NoSign("a"), reading_of, Book(EIGHT[1:], [], 8), Sheet(["s"], ["e"], [[["b", "a"]]]))

    def test_words(self):
        for value in NO_LISTS + [[], (), "vk", ["k"] * 12, [None, None], ["k", None, None], {"k": 1}] + [
                ["v", name] for name in NO_NAMES if name is not None]:
            self.refuses(BadWord("word"), word_for, PLAIN, SHEET, "two", "b", value)
            self.refuses(BadWord("word"), shows_word, PLAIN, SHEET, "two", "b", value, None)
        for word in ([None], ["k"] * 11, [None] + ["k"] * 10, ("v", None)):
            self.assertIs(shows_word(PLAIN, SHEET, "two", "b", word, word_for(PLAIN, SHEET, "two", "b", word)), True)

    def test_too_many(self):
        sheet = Sheet(["s"], ["e"], [[["a"]]])
        six = ["a"] * 6
        many = Sheet(["s", "t", "u"], ["e", "f", "g"], [[six, None, None], [None, six, None], [None, None, ["a"] * 2]])
        books = [(Book(EIGHT), TooMany("signs", 7)), (Book(EIGHT[:6], [], None, 8), TooMany("signs", 5)),
                 (Book(EIGHT[:6], [fact_of("row a b", "row a c")]), TooMany("signs", 5)), (Book(EIGHT, [], 8), TooMany("signs", 5))]
        for told, book, error in [(told, *pair) for told in (sheet, many) for pair in books] + [
                (many, Book(EIGHT[:7]), TooMany("cuttings", 36)), (many, Book(EIGHT[:5], [], 1, 1), TooMany("cuttings", 36))]:
            for call, more in ((reading_of, ()), (shows_reading, (None,)), (words_in, ("s", "e")), (word_for, ("s", "e", ["a"])),
                               (shows_word, ("s", "e", ["a"], None)), (shows_reading, (NoReading([]),))):
                self.refuses(error, call, book, told, *more)
        for book in (Book(EIGHT[:7]), Book(EIGHT[:5], [], 5, 5)):
            self.assertEqual(words_in(book, sheet, "s", "e"), (("a",),))

    def test_each(self):
        calls = ((reading_of, ()), (shows_reading, (None,)), (words_in, ("two", "b")), (word_for, ("two", "b", ["k"])),
                 (shows_word, ("two", "b", ["k"], None)))
        for call, more in calls:
            for value in NO_BOOKS:
                self.refuses(BadBook("book"), call, value, SHEET, *more)
            for value in NO_SHEETS:
                self.refuses(BadSheet("sheet"), call, PLAIN, value, *more)
        for call, more in calls[2:]:
            for value in (None, 0, "x", ["two"], SAME, ""):
                self.refuses(NoStem(value), call, PLAIN, SHEET, value, *more[1:])
                self.refuses(NoEnding(value), call, PLAIN, SHEET, "two", value, *more[2:])

    def test_impossible(self):
        for book in (Book(["k", "m", "n", "u", "v"], [], 2, 2), Book(["k", "m", "n", "u", "v"], sayings_of("not row k n")),
                     Book(["k", "m", "n", "u", "v"], sayings_of("row k n", "column k n"))):
            paper = reading_of(book, SHEET)
            self.assertEqual(type(paper), NoReading)
            self.refuses(Impossible(paper), words_in, book, SHEET, "two", "b")
            self.refuses(Impossible(paper), word_for, book, SHEET, "two", "b", ["v", None])
            self.refuses(Impossible(paper), word_for, book, SHEET, "one", "a", ["u", "k"])
            self.assertIs(shows_word(book, SHEET, "two", "b", ["v", None], None), False)


if __name__ == "__main__":
    unittest.main()
