"""Letters that signs can have: beside a plain listing of all grids."""

import random
import unittest

from bending import ODD, bent_paper, both_sorts, is_any_tree, is_grid_in, is_row, is_told
from mutesigns.books import Book
from mutesigns.check_reading import shows_letters
from mutesigns.errors import BadBook, BadSide, BadValue, BadWord, Impossible, NoSign, TooMany, Twice
from mutesigns.grids import Grid
from mutesigns.lettered import Letters, letters_for, sounds_of
from mutesigns.namings import Barred
from mutesigns.papers import Denial, Paper
from mutesigns.possible import Kept, grid_of
from mutesigns.readings import read_in
from mutesigns.refusing import tree_with
from mutesigns.sayings import Saying
from mutesigns.values import Values
from oracles import drawn_book, kept_grids
from support import NO_SIDES, SAME, Case
from test_books import EIGHT
from test_facts import sayings_of
from test_grids import all_grids
from test_listing import NO_BOOKS
from test_sheets import NO_WORDS

ABC = ["a", "b", "c"]
ABCD = ["a", "b", "c", "d"]
FOUR = Book(ABCD, [], 2, 2)
THREE = Values([("a", "ka"), ("b", "ko"), ("c", "sa")])
NO_VALUES = [None, 0, "a ka", [("a", "ka")], {"a": "ka"}, (), SAME, FOUR, THREE.pairs]
SOUNDS = ("a", "o", "ka", "ko", "sa", "so", "te")


def letter_of(side, value):
    """The letter of a value, told plainly."""
    consonant, vowel = ("", value) if len(value) == 1 else value
    return consonant if side == "row" else vowel


def fitted(kept, values):
    """The grids that the values fit, told plainly."""
    told = dict(values.pairs)
    return [grid for grid in kept if all(
        grid.are_alike(side, one, other) == (letter_of(side, told[one]) == letter_of(side, told[other]))
        for side in ("row", "column") for one in told for other in told)]


def letters_in(grid, values, side, sign):
    """The letters that a sign has in a grid by those alike with it, (None,) for a new one."""
    found = {letter_of(side, value) for one, value in values.pairs if grid.are_alike(side, one, sign)}
    return tuple(found) or (None,)


def letters_can(fitting, values, side, sign):
    """All letters that a sign can have, ascending, None last."""
    found = {letter for grid in fitting for letter in letters_in(grid, values, side, sign)}
    return tuple(sorted(found - {None})) + ((None,) if None in found else ())


def is_shown(book, fitting, told, value, is_in):
    """Whether it is a fitting grid that is so, or a tree with this standing besides, told plainly."""
    if type(value) is Grid:
        return is_grid_in(value, fitting) and is_in(value)
    return is_any_tree(book, told, value)


def is_letters(book, fitting, values, side, sign, value):
    """Whether it is a right Letters, told plainly."""
    letters = sorted({letter_of(side, sound) for _, sound in values.pairs})
    if type(value) is not Letters or not is_row(value.rows, len(letters)):
        return False
    for letter, row in zip(letters, value.rows):
        if not is_row(row, 2) or not is_told(row[0], letter):
            return False
        first = min(one for one, sound in values.pairs if letter_of(side, sound) == letter)
        if not is_shown(book, fitting, [*values.sayings(), Saying(side, first, sign)], row[1],
                        lambda grid: letter in letters_in(grid, values, side, sign)):
            return False
    apart = [Saying(side, one, sign, False) for one in values.signs]
    return is_shown(book, fitting, [*values.sayings(), *apart], value.new, lambda grid: letters_in(grid, values, side, sign) == (None,))


def drawn_values(draw, signs, most=3):
    """Values of one to three of the signs, but not of all."""
    told = draw.sample(signs, draw.randint(1, min(most, len(signs) - 1)))
    return Values(list(zip(told, draw.sample(SOUNDS, len(told)))))


def drawn_fitted(seed, count, is_fitted=True, most=4, **more):
    """Books, the grids that keep them, values, and the grids among these that they fit: some, or none."""
    draw = random.Random(seed)
    found = []
    while len(found) < count:
        book = drawn_book(draw, EIGHT[:draw.randint(2, most)], draw.choice((0, 2, 4, 6)), **more)
        values, kept = drawn_values(draw, book.signs), kept_grids(book)
        fitting = fitted(kept, values)
        if bool(fitting) == is_fitted:
            found.append((book, kept, values, fitting))
    return found


class LettersOfSigns(Case):
    def check(self, book, values, fitting, side, sign):
        found = letters_for(book, values, side, sign)
        self.assertEqual((type(found), found.kind, bool(found)), (Letters, "letters", True))
        self.assertEqual(found, letters_for(sign=sign, side=side, values=values, book=book))
        self.assertTrue(is_letters(book, fitting, values, side, sign, found))
        self.assertIs(shows_letters(book, values, side, sign, found), True)
        can = letters_can(fitting, values, side, sign)
        self.assertEqual([letter for letter, shown in found.rows if type(shown) is Grid], [letter for letter in can if letter is not None])
        self.assertIs(type(found.new) is Grid, None in can)
        return can

    def test_drawn(self):
        kinds = []
        for book, kept, values, fitting in drawn_fitted(1, 250):
            sounds = sounds_of(book, values, book.signs[:6])
            self.assertEqual(sounds, sounds_of(word=list(book.signs[:6]), values=values, book=book))
            for sign, sound in zip(book.signs, sounds):
                for side, told in zip(("row", "column"), sound):
                    if sign in values.signs:
                        self.assertEqual(told, (letter_of(side, values.value(sign)),))
                    else:
                        self.assertEqual(told, self.check(book, values, fitting, side, sign))
                        kinds.append((None in told, len(told) > 1))
        self.assertTrue(all(kinds.count(kind) > 15 for kind in ((True, True), (True, False), (False, True), (False, False))))

    def test_words(self):
        draw = random.Random(2)
        for book, kept, values, fitting in drawn_fitted(3, 60):
            word = draw.choices(book.signs, k=draw.randint(1, 6))
            alone = [sounds_of(book, values, [sign])[0] for sign in word]
            self.assertEqual(sounds_of(book, values, word), tuple(alone))
            self.assertTrue(all(type(pair) is tuple and len(pair) == 2 and type(pair[0]) is tuple for pair in alone))

    def test_facts_of_reading(self):
        """The signs that have values read a sign on a side of all grids that they fit exactly if no new letter can be."""
        for book, kept, values, fitting in drawn_fitted(4, 80):
            for sign in [one for one in book.signs if one not in values.signs]:
                for side in ("row", "column"):
                    read = all(dict(read_in(grid, values.signs))[sign] in ("both", side) for grid in fitting)
                    self.assertIs(type(letters_for(book, values, side, sign).new) is not Grid, read)

    def test_no_grid_is_fitted(self):
        for book, kept, values, fitting in drawn_fitted(5, 60, False, 4):
            paper = Impossible(Barred(tree_with(book, values.sayings())))
            sign = [one for one in book.signs if one not in values.signs][0]
            self.refuses(paper, letters_for, book, values, "row", sign)
            self.refuses(paper, letters_for, book, values, "column", sign)
            self.refuses(paper, sounds_of, book, values, [sign])
            self.refuses(paper, sounds_of, book, values, [values.signs[0]])

    def test_vowels_alone(self):
        """The consonant of a vowel alone counts as one of its own, and comes first."""
        book = Book(ABC, sayings_of("row a c"))
        self.assertEqual(sounds_of(book, Values([("a", "o"), ("b", "ka")]), ["c"]), ((("",), ("a", None)),))
        found = letters_for(book, Values([("b", "ka"), ("a", "o")]), "row", "c")
        self.assertEqual([letter for letter, shown in found.rows], ["", "k"])

    def test_large_plain_books(self):
        book = Book(EIGHT, sayings_of("row a b", "row b c", "column a h", "column c d"))
        values = Values([("a", "ka"), ("b", "ko"), ("e", "te"), ("h", "sa"), ("d", "nu"), ("f", "mi"), ("g", "re")])
        for side in ("row", "column"):
            self.assertIs(shows_letters(book, values, side, "c", letters_for(book, values, side, "c")), True)
        self.assertEqual(sounds_of(book, values, ["c"]), ((("k",), ("u",)),))
        six = Book(EIGHT[:6], [], 4, 4)
        for side in ("row", "column"):
            self.assertIs(shows_letters(six, THREE, side, "f", letters_for(six, THREE, side, "f")), True)


class Bent(Case):
    def test_drawn(self):
        draw = random.Random(6)
        found = []
        for book, kept, values, fitting in drawn_fitted(7, 200):
            side, sign = draw.choice(("row", "column")), draw.choice([one for one in book.signs if one not in values.signs])
            paper = letters_for(book, values, side, sign)
            trees = [tree for tree in [paper.new, *[row[1] for row in paper.rows]] if type(tree) is tuple]
            pool = [*ODD, *trees, *draw.sample(fitting, min(3, len(fitting))), *draw.sample(all_grids(book.signs), 3), "k", (("place", "a", "b"),)]
            for _ in range(8):
                value = bent_paper(draw, paper, pool)
                found.append(is_letters(book, fitting, values, side, sign, value))
                self.assertIs(shows_letters(value=value, sign=sign, side=side, values=values, book=book), found[-1],
                              (str(book), str(values), side, sign, value.parts))
        both_sorts(self, found)

    def test_each(self):
        grid = Grid(ABCD, (0, 0, 1, 1), (0, 1, 0, 1))
        right = letters_for(FOUR, THREE, "row", "d")
        (_, refused), _ = right.rows
        for rows, new, is_right in (
                ([("k", refused), ("s", grid)], right.new, True), ([("s", grid), ("k", refused)], right.new, False),
                ([("k", grid), ("s", grid)], right.new, False), ([("k", refused), ("s", refused)], right.new, False),
                ([("k", refused)], right.new, False), ([("k", refused), ("s", grid), ("t", grid)], right.new, False),
                ([("k", refused), ("s", grid)], grid, False), ([("k", refused), ("s", grid)], None, False),
                ([("k", refused), ("s", None)], right.new, False), ([(SAME, refused), ("s", grid)], right.new, False),
                ([("k", refused), ("s", grid, 0)], right.new, False), (None, right.new, False),
                ([("k", refused), ("s", grid.crossed())], right.new, False), ([("k", refused), ("s", str(grid))], right.new, False)):
            self.assertIs(shows_letters(FOUR, THREE, "row", "d", Letters(rows, new)), is_right, (rows, new))
        for value in (None, SAME, right.parts, Paper("letters", *right.parts), Denial("letters", *right.parts), Kept(grid), "letters"):
            self.assertIs(shows_letters(FOUR, THREE, "row", "d", value), False)

    def test_no_grid(self):
        """Trees are right where no grid is fitted, too: nothing is sought."""
        torn = Book(ABC, [], 1, 2)
        values = Values([("a", "ka")])
        tree = grid_of(torn).tree
        self.assertIs(shows_letters(torn, values, "row", "b", Letters([("k", tree_with(torn, [Saying("row", "a", "b")]))],
                                                                      tree_with(torn, [Saying("row", "a", "b", False)]))), True)
        for grid in all_grids(ABC):
            self.assertIs(shows_letters(torn, values, "row", "b", Letters([("k", grid)], tree)), False)

    def test_no_bound(self):
        seven = Book(EIGHT[:7], [], 7, 7)
        grid = Grid(EIGHT[:7], list(range(7)), [0] * 7)
        two = Grid(EIGHT[:7], [0, 0, 1, 2, 3, 4, 5], [0, 1, 1, 1, 1, 1, 1])
        self.assertIs(shows_letters(seven, Values([("a", "ka")]), "row", "b", Letters([("k", two)], grid)), True)


class Errors(Case):
    def test_order(self):
        right = {"book": FOUR, "values": THREE, "side": "row", "sign": "d"}
        word = {"book": FOUR, "values": THREE, "word": ["d"]}
        torn = Book(ABCD, [], 1, 2)
        seven = Book(EIGHT[:7], [], 7)
        lasts = [(TooMany("signs", 6), {"book": seven}), (Impossible(Barred(tree_with(torn, THREE.sayings()))), {"book": torn})]
        first = [(BadBook("book"), {"book": None}), (BadValue("values"), {"values": None})]
        lacked = (NoSign("x"), {"values": Values([("y", "ka"), ("a", "sa"), ("x", "so")])})
        for call, told in ((letters_for, right), (shows_letters, {**right, "value": None})):
            behind = [[(BadSide("side"), {"side": 0}), (NoSign("x"), {"sign": "x"})], [(BadSide("side"), {"side": 0}), (Twice("a"), {"sign": "a"})]]
            for more in behind:
                for ahead in ([first[0], first[1]], [first[0], lacked]):
                    self.refuses_in_order(call, told, [*ahead, *more])
                if call is letters_for:
                    for last in lasts:
                        self.refuses_in_order(call, told, [*more, last])
        for ahead in (first, [first[0], lacked]):
            self.refuses_in_order(sounds_of, word, [*ahead, (BadWord("word"), {"word": []})])
            self.refuses_in_order(sounds_of, word, [*ahead, (NoSign("z"), {"word": ["a", "z", "y"]})])
        for last in lasts:
            self.refuses_in_order(sounds_of, word, [(NoSign("z"), {"word": ["a", "z", "y"]}), last])

    def test_each(self):
        for call, more in ((letters_for, ("row", "d")), (shows_letters, ("row", "d", None)), (sounds_of, (["d"],))):
            for value in NO_BOOKS:
                self.refuses(BadBook("book"), call, value, None, *more)
            for value in NO_VALUES:
                self.refuses(BadValue("values"), call, FOUR, value, *more)
            self.refuses(NoSign("e"), call, FOUR, Values([("a", "ka"), ("f", "ko"), ("e", "so")]), *more)
        for call, more in ((letters_for, ()), (shows_letters, (None,))):
            for value in NO_SIDES:
                self.refuses(BadSide("side"), call, FOUR, THREE, value, None, *more)
            for value in (None, "x", "", 0, True, ["d"], SAME):
                self.refuses(NoSign(value), call, FOUR, THREE, "row", value, *more)
            self.refuses(Twice("c"), call, FOUR, THREE, "row", "c", *more)
        for value in NO_WORDS:
            self.refuses(BadWord("word"), sounds_of, FOUR, THREE, value)
        self.refuses(NoSign("x"), sounds_of, FOUR, THREE, ["d", "x", "y"])
        for book in (Book(EIGHT[:7], [], 8), Book(EIGHT[:7], [], 1, 1)):
            self.refuses(TooMany("signs", 6), letters_for, book, THREE, "row", "d")
            self.refuses(TooMany("signs", 6), sounds_of, book, THREE, ["d"])


if __name__ == "__main__":
    unittest.main()
