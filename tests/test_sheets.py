"""Sheets: cells, gaps, crossed, put together, texts, errors in their order."""

import itertools
import random
import unittest

from mutesigns.errors import BadSheet, BadText, BadWord, Misfit, NoEnding, NoStem, TooMany, Twice
from mutesigns.sheets import Sheet
from support import NO_LISTS, NO_NAMES, SAME, Case

SHEET = Sheet(["one", "two"], ["a", "b"], [[["u", "k"], ["u", "n"]], [["v", "m"], None]])
FIVE = ["p", "q", "r", "s", "t"]
NO_WORDS = NO_LISTS + [[], (), "a+b", ["a"] * 7] + [["a", name] for name in NO_NAMES]


def drawn_sheet(draw, most=4, signs="abcdefgh", longest=6, gap=0.3, names=("one", "two", "p", "q", "r9", "e", "a", "i")):
    """A sheet of at most so many stems and endings, with a word in each of them."""
    stems = draw.sample(names, draw.randint(1, most))
    endings = draw.sample(names, draw.randint(1, most))
    cells = [[None if draw.random() < gap else draw.choices(signs, k=draw.randint(1, longest)) for _ in endings]
             for _ in stems]
    for row, column in itertools.zip_longest(range(len(stems)), range(len(endings)), fillvalue=0):
        if cells[row][column] is None:
            cells[row][column] = [draw.choice(signs)]
    return Sheet(stems, endings, cells)


def parts(sheet):
    return (sheet.stems, sheet.endings, sheet.cells)


class Sheets(Case):
    def test_attributes(self):
        stems, endings = ["two", "one"], ("z", "a")
        cells = [[("u", "u"), None], ([["k"][0]], ["a1", "b", "c", "d", "e", "f"])]
        sheet = Sheet(stems, endings, cells)
        stems.append("x")
        cells[0][0] = None
        cells[1][1].append("x")
        cells.clear()
        self.assertEqual(parts(sheet), (("two", "one"), ("z", "a"),
                                        ((("u", "u"), None), (("k",), ("a1", "b", "c", "d", "e", "f")))))
        self.assertEqual(sheet.signs, ("a1", "b", "c", "d", "e", "f", "k", "u"))
        self.assertEqual(sheet.gaps, (("two", "a"),))
        self.assertEqual(Sheet(cells=[[["a"]]], endings=["s"], stems=["s"]).gaps, ())

    def test_gaps_stem_by_stem(self):
        sheet = Sheet(["t", "s"], ["f", "e", "d"], [[None, ["a"], None], [["a"], None, ["b"]]])
        self.assertEqual(sheet.gaps, (("t", "f"), ("t", "d"), ("s", "e")))

    def test_word_at(self):
        draw = random.Random(1)
        for sheet in [drawn_sheet(draw) for _ in range(30)]:
            for (row, stem), (column, ending) in itertools.product(enumerate(sheet.stems), enumerate(sheet.endings)):
                word = sheet.word_at(ending=ending, stem=stem)
                self.assertEqual(word, sheet.cells[row][column])
                self.assertEqual(word is None, (stem, ending) in sheet.gaps)
                self.assertIsInstance(word, (tuple, type(None)))
        self.assertEqual(SHEET.word_at("two", "a"), ("v", "m"))

    def test_with_word(self):
        word = ["x", "y"]
        over, filled = SHEET.with_word("one", "a", word), SHEET.with_word(word=("z",), ending="b", stem="two")
        word.append("z")
        self.assertEqual(str(over), "one two / a b : x+y u+n v+m -")
        self.assertEqual(str(filled), "one two / a b : u+k u+n v+m z")
        self.assertEqual((filled.gaps, filled.signs), ((), ("k", "m", "n", "u", "v", "z")))
        self.assertEqual(str(SHEET), "one two / a b : u+k u+n v+m -")

    def test_crossed(self):
        draw = random.Random(2)
        for sheet in [drawn_sheet(draw) for _ in range(40)]:
            crossed = sheet.crossed()
            self.assertEqual((crossed.stems, crossed.endings), (sheet.endings, sheet.stems))
            for stem, ending in itertools.product(sheet.stems, sheet.endings):
                word = sheet.word_at(stem, ending)
                self.assertEqual(crossed.word_at(ending, stem), None if word is None else tuple(reversed(word)))
            self.assertEqual(crossed.crossed(), sheet)
            self.assertEqual(crossed.signs, sheet.signs)
            self.assertEqual(sorted(crossed.gaps), sorted((ending, stem) for stem, ending in sheet.gaps))

    def test_equal(self):
        self.assertTrue(SHEET == Sheet(("one", "two"), ("a", "b"), ((("u", "k"), ("u", "n")), [["v", "m"], None])))
        for text in ("two one / a b : v+m - u+k u+n", "one two / b a : u+n u+k - v+m", "one two / a b : u+k u+n v+m v",
                     "one two / a b : u+k u+n v+n -", "one x / a b : u+k u+n v+m -"):
            self.assertTrue(SHEET != Sheet.read(text))
            self.assertFalse(SHEET == Sheet.read(text))
        self.assertFalse(SHEET == str(SHEET))
        self.assertFalse(SHEET == None)  # noqa: E711
        self.assertFalse(SHEET == parts(SHEET))


class WithSheet(Case):
    def check(self, one, other):
        """Put together in the plainest way: cell by cell."""
        stems = list(dict.fromkeys(one.stems + other.stems))
        endings = list(dict.fromkeys(one.endings + other.endings))
        words = [{(stem, ending): sheet.word_at(stem, ending) for stem in sheet.stems for ending in sheet.endings
                  if sheet.word_at(stem, ending) is not None} for sheet in (one, other)]
        if any(words[1].get(cell, word) != word for cell, word in words[0].items()):
            self.refuses(Misfit("cells"), one.with_sheet, other)
            return "misfit"
        if len(stems) > 4 or len(endings) > 4:
            self.refuses(TooMany("stems", 4) if len(stems) > 4 else TooMany("endings", 4), one.with_sheet, other)
            return "many"
        both = {**words[0], **words[1]}
        cells = [[both.get((stem, ending)) for ending in endings] for stem in stems]
        self.assertEqual(one.with_sheet(other=other), Sheet(stems, endings, cells))
        return "right"

    def test_drawn(self):
        draw = random.Random(3)
        found = []
        for _ in range(400):
            names = draw.choice((("a", "b", "c", "d"), ("a", "b", "c", "d", "e", "f")))
            one = drawn_sheet(draw, draw.randint(1, 4), "ab", 1, 0.5, names)
            found.append(self.check(one, drawn_sheet(draw, draw.randint(1, 4), "ab", 1, 0.5, names)))
        self.assertTrue(all(found.count(sort) > 30 for sort in ("right", "misfit", "many")))

    def test_itself(self):
        draw = random.Random(4)
        for sheet in [drawn_sheet(draw) for _ in range(20)]:
            self.assertEqual(sheet.with_sheet(sheet), sheet)

    def test_cells(self):
        self.assertEqual(str(SHEET.with_sheet(Sheet.read("x two / b c : - k v+p n"))),
                         "one two x / a b c : u+k u+n - v+m v+p n - - k")
        self.refuses(Misfit("cells"), SHEET.with_sheet, Sheet.read("one / b : u+m"))
        self.assertEqual(str(SHEET.with_sheet(Sheet.read("one / b : u+n"))), str(SHEET))

    def test_errors(self):
        for value in (None, 0, str(SHEET), [SHEET], SAME, parts(SHEET)):
            self.refuses(BadSheet("other"), SHEET.with_sheet, value)
        many = Sheet(["one", "p", "q", "r"], ["b", "x", "y", "z"], [[["w"]] * 4] * 4)
        self.refuses(Misfit("cells"), SHEET.with_sheet, many)
        self.refuses(TooMany("stems", 4), SHEET.with_sheet, Sheet(FIVE[:4], FIVE[:4], [[["w"]] * 4] * 4))
        self.refuses(TooMany("endings", 4), SHEET.with_sheet, Sheet(["one"], FIVE[:4], [[["w"]] * 4]))


class SheetErrors(Case):
    def test_order(self):
        faults = [(BadSheet("stems"), {"stems": []}), (Twice("p"), {"stems": ["q", "p", "p", "q"]}),
                  (BadSheet("endings"), {"endings": "ab"}), (Twice("b"), {"endings": ["a", "b", "b", "a"]}),
                  (BadSheet("cells"), {"cells": [[["u"], None]]})]
        right = {"stems": ["p"], "endings": ["a", "b"], "cells": [[["u"], ["v"]]]}
        self.refuses_in_order(Sheet, right, faults)
        self.refuses(TooMany("stems", 4), Sheet, FIVE, FIVE, [[["a"]] * 5] * 5)
        self.refuses(TooMany("endings", 4), Sheet, FIVE[:4], FIVE, [[["a"]] * 5] * 4)
        self.refuses(BadSheet("cells"), Sheet, FIVE, FIVE, [[["a"]] * 5] * 4)
        self.refuses(BadSheet("cells"), Sheet, FIVE, FIVE, [[["a"]] * 5] * 4 + [[None] * 5])
        self.refuses(Twice("p"), Sheet, FIVE + ["p"], None, None)

    def test_names(self):
        for value in NO_LISTS + [[], ()] + [["a", name] for name in NO_NAMES]:
            self.refuses(BadSheet("stems"), Sheet, value, ["a"], [[["a"]]])
            self.refuses(BadSheet("endings"), Sheet, ["a"], value, [[["a"]]])

    def test_cells(self):
        word = ["a"]
        for value in NO_LISTS + [[], [[word, word]], [[word, word]] * 3, [[word], [word]], [[word, word], [word]],
                                 [[word, word], word], [[word, word], None], [[word, word], "ab"], [word, word], ["a", "b"],
                                 [[None, None], [word, word]], [[None, word], [None, word]], [[word, None], [word, None]],
                                 [[None, None], [None, None]], [[word, word, word], [word, word, word]], {"a": word}]:
            self.refuses(BadSheet("cells"), Sheet, ["p", "q"], ["e", "f"], value)
        for bad in NO_WORDS:
            if bad is not None:
                self.refuses(BadSheet("cells"), Sheet, ["p", "q"], ["e", "f"], [[word, bad], [word, word]])
                self.refuses(BadSheet("cells"), Sheet, ["p", "q"], ["e", "f"], ((word, word), (bad, word)))
        self.assertEqual(Sheet(["p", "q"], ["e", "f"], [[None, word], [word, None]]).gaps, (("p", "e"), ("q", "f")))

    def test_methods(self):
        right = {"stem": "one", "ending": "b", "word": ["a"]}
        faults = [(NoStem("a"), {"stem": "a"}), (NoEnding("one"), {"ending": "one"}), (BadWord("word"), {"word": ["a"] * 7})]
        self.refuses_in_order(SHEET.with_word, right, faults)
        self.refuses_in_order(SHEET.word_at, {"stem": "one", "ending": "b"}, faults[:2])
        for value in (None, 0, True, "", "On", ["one"], ("one",), b"one", SAME, "one two"):
            for call, more in ((SHEET.word_at, ()), (SHEET.with_word, (["a"],))):
                self.refuses(NoStem(value), call, value, "b", *more)
                self.refuses(NoEnding(value), call, "one", value, *more)
        for value in NO_WORDS:
            self.refuses(BadWord("word"), SHEET.with_word, "two", "b", value)
            self.refuses(BadWord("word"), SHEET.with_word, "one", "a", value)
        self.assertEqual(str(SHEET), "one two / a b : u+k u+n v+m -")


class SheetTexts(Case):
    def test_texts(self):
        self.reads(Sheet.read, "one two / a b : u+k u+n v+m -", SHEET)
        self.reads(Sheet.read, "p / p : a+a+a+a+a+a", Sheet(["p"], ["p"], [[["a"] * 6]]))
        self.reads(Sheet.read, "b a d c / z y x w : - a - b - a b - c - - c - d - -",
                   Sheet(["b", "a", "d", "c"], ["z", "y", "x", "w"],
                         [[None, ["a"], None, ["b"]], [None, ["a"], ["b"], None], [["c"], None, None, ["c"]],
                          [None, ["d"], None, None]]))

    def test_where_it_cannot_go_on(self):
        for text, at in (
                ("/ a : u", 0), ("one / : u", 2), ("one one / a : u", 1), ("p q r s t / a : u", 4), ("p q r s", 4),
                ("p / a b c d e : u", 6), ("p / a b a : u", 4), ("p / p : u", None), ("p / a", 3), ("p / a :", 4),
                ("p / a : -", 4), ("p / a b : - -", 5), ("p / a b : - u", 5), ("p / a b : u -", 6), ("p q / a : u -", 6),
                ("p q / a : - u", 5), ("p q / a b : - u u -", None), ("p q / a b : u - u -", 9), ("p q / a b : - u - u", 8),
                ("p q / a b : - u - -", 8), ("p / a : u v", 5), ("p / a : u+", 4), ("p / a : +u", 4), ("p / a : u++v", 4),
                ("p / a : a+b+c+d+e+f+g", 4), ("p / a : U", 4), ("p / a : u+1", 4), ("p  / a : u", 1), ("p : a : u", 1),
                ("p / a / u", 3), ("p / a : ?", 4)):
            if at is None:
                self.assertEqual(str(Sheet.read(text)), text)
            else:
                self.refuses(BadText(0, at), Sheet.read, text)

    def test_no_strings(self):
        for value in (None, 0, ["p", "/"], b"p / a : u", SHEET):
            self.refuses(BadText(0, 0), Sheet.read, value)


if __name__ == "__main__":
    unittest.main()
