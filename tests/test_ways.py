"""Heard words, syllables, values of signs and what they tell."""

import itertools
import random
import unittest

from mutesigns.errors import BadGrid, BadHeard, BadValue, Misfit, NoSign, TooMany, Twice
from mutesigns.grids import Grid
from mutesigns.sayings import Saying
from mutesigns.values import Values
from mutesigns.ways import WAYS, consonant_of, exchanged, is_heard, is_value, syllables, vowel_of
from oracles import SIDES
from support import NO_LISTS, NO_NAMES, SAME, Case
from test_books import EIGHT
from test_grids import all_grids

VOWELS = set("aeiou")
CONSONANTS = [letter for letter in "abcdefghijklmnopqrstuvwxyz" if letter not in VOWELS]
NO_HEARD = [None, 0, True, "", "a" * 13, "A", "ka1", "k a", "ka\n", "\u00e4", "k-a", ["k"], ("a",), b"ka", SAME, "1", "aB"]
NO_VALUES = [*NO_HEARD, "k", "kk", "ak", "ae", "kae", "kka", "pst", "ko ", "KO"]
NO_WAYS = [None, 0, True, "", "Drop", "dropp", "next ", ["drop"], ("drop", "next"), b"drop", SAME]


def plain_syllables(heard, way):
    """The word read from behind, letter by letter."""
    found, vowel = [], None
    for at in reversed(range(len(heard))):
        letter = heard[at]
        if letter in VOWELS:
            found.append(letter)
            vowel = letter
        elif heard[at + 1:at + 2] and heard[at + 1] in VOWELS:
            found[-1] = letter + found[-1]
        elif way == "next" and vowel is not None:
            found.append(letter + vowel)
    return tuple(reversed(found))


def drawn_heard(draw, letters="aeioknpst", most=12):
    return "".join(draw.choices(letters, k=draw.randint(1, most)))


class Ways(Case):
    def test_ways(self):
        self.assertEqual(WAYS, ("drop", "next"))

    def test_drawn(self):
        draw = random.Random(1)
        for letters in ("aeioknpst", "ak", "aeiou", "knpst", "abcdefghijklmnopqrstuvwxyz"):
            for _ in range(150):
                heard = drawn_heard(draw, letters)
                for way in WAYS:
                    found = syllables(way=way, heard=heard)
                    self.assertEqual(found, plain_syllables(heard, way), (heard, way))
                    self.assertTrue(isinstance(found, tuple) and all(is_value(value) for value in found))

    def test_each(self):
        for heard, drop, following in (
                ("a", ("a",), ("a",)), ("k", (), ()), ("ka", ("ka",), ("ka",)), ("ak", ("a",), ("a",)), ("kk", (), ()),
                ("kka", ("ka",), ("ka", "ka")), ("aa", ("a", "a"), ("a", "a")), ("kae", ("ka", "e"), ("ka", "e")),
                ("strakto", ("ra", "to"), ("sa", "ta", "ra", "ko", "to")), ("akst", ("a",), ("a",)), ("yaw", ("ya",), ("ya",)),
                ("knoso", ("no", "so"), ("ko", "no", "so")), ("stststsata", ("sa", "ta"), ("sa", "ta") * 3 + ("sa", "ta")),
                ("e" * 12, ("e",) * 12, ("e",) * 12)):
            self.assertEqual((syllables(heard, "drop"), syllables(heard, "next")), (drop, following))
        self.assertEqual(len(syllables("bcdfghjklmna", "next")), 11)
        self.assertEqual(syllables("bcdfghjklmna", "drop"), ("na",))

    def test_letters(self):
        for consonant in ["", *CONSONANTS]:
            for vowel in sorted(VOWELS):
                value = consonant + vowel
                self.assertIs(is_value(value), True)
                self.assertEqual((consonant_of(value), vowel_of(value=value)), (consonant, vowel))

    def test_any_values(self):
        for value in NO_HEARD:
            self.assertIs(is_heard(value), False)
        for value in NO_VALUES:
            self.assertIs(is_value(value), False)
            self.refuses(BadValue("value"), consonant_of, value)
            self.refuses(BadValue("value"), vowel_of, value)
        for value in ("a", "k", "pst", "abcdefghijkl", "z" * 12):
            self.assertIs(is_heard(value), True)

    def test_exchanged(self):
        draw = random.Random(2)
        for _ in range(200):
            heard = drawn_heard(draw)
            letters = draw.choice((sorted(VOWELS), CONSONANTS))
            one, other = draw.choice(letters), draw.choice(letters)
            found = exchanged(other=other, one=one, heard=heard)
            table = {one: other, other: one}
            self.assertEqual(found, "".join(table.get(letter, letter) for letter in heard))
            self.assertEqual(exchanged(found, other, one), heard)
            for way in WAYS:
                self.assertEqual(len(syllables(found, way)), len(syllables(heard, way)))
        self.assertEqual(exchanged("knoso", "k", "k"), "knoso")
        self.assertEqual((exchanged("knosa", "o", "a"), exchanged("knosa", "z", "t")), ("knaso", "knosa"))

    def test_errors(self):
        for value in NO_HEARD:
            self.refuses(BadHeard("heard"), syllables, value, None)
            self.refuses(BadHeard("heard"), exchanged, value, None, None)
        for value in NO_WAYS:
            self.refuses(BadHeard("way"), syllables, "ka", value)
        for value in (*NO_HEARD, "ka", "kk"):
            self.refuses(BadHeard("one"), exchanged, "ka", value, value)
            self.refuses(BadHeard("other"), exchanged, "ka", "k", value)
        self.refuses(Misfit("letters"), exchanged, "ka", "k", "a")
        self.refuses(Misfit("letters"), exchanged, "pst", "u", "y")
        self.refuses_in_order(exchanged, {"heard": "ka", "one": "k", "other": "s"},
                              [(BadHeard("heard"), {"heard": ""}), (BadHeard("one"), {"one": "ks"}), (BadHeard("other"), {"other": 0})])
        self.refuses_in_order(syllables, {"heard": "ka", "way": "drop"}, [(BadHeard("heard"), {"heard": ""}), (BadHeard("way"), {"way": 1})])


def drawn_pairs(draw, many, consonants=("", "k", "s"), vowels="ao"):
    """Pairs of so many signs and unlike values."""
    values = [consonant + vowel for consonant in consonants for vowel in vowels]
    return list(zip(draw.sample(EIGHT, many), draw.sample(values, many)))


class SignValues(Case):
    def test_attributes(self):
        draw = random.Random(3)
        for many in (1, 2, 4, 6):
            pairs = drawn_pairs(draw, many)
            told = [list(pair) for pair in pairs]
            values = Values(pairs=told)
            told[0][0] = "zz"
            told.clear()
            self.assertEqual((values.pairs, values.signs), (tuple(sorted(pairs)), tuple(sorted(sign for sign, _ in pairs))))
            self.assertEqual([values.value(sign=sign) for sign, _ in pairs], [value for _, value in pairs])
            self.assertEqual(str(values), " / ".join(f"{sign} {value}" for sign, value in sorted(pairs)))
            self.assertTrue(values == Values(tuple(pairs[::-1])))
            self.assertTrue(values != Values([*pairs[1:], ("zz", "zu")]))
        self.assertFalse(Values([("a", "ko")]) == (("a", "ko"),))
        self.assertFalse(Values([("a", "ko")]) == Values([("a", "ka")]))
        self.assertFalse(Values([("a", "ko")]) == None)  # noqa: E711

    def test_sayings(self):
        draw = random.Random(4)
        for many in (1, 2, 3, 4, 6):
            for _ in range(10):
                pairs = drawn_pairs(draw, many)
                told = dict(pairs)
                plain = []
                for side in SIDES:
                    for one, other in itertools.combinations(sorted(told), 2):
                        letters = [told[sign][:-1] if side == "row" else told[sign][-1] for sign in (one, other)]
                        plain.append(Saying(side, one, other, letters[0] == letters[1]))
                self.assertEqual(Values(pairs).sayings(), tuple(plain))

    def test_vowels_alone_are_one_consonant(self):
        told = [str(one) for one in Values([("a", "o"), ("b", "e"), ("c", "ko")]).sayings()]
        self.assertEqual(told, ["not column a b", "column a c", "not column b c", "row a b", "not row a c", "not row b c"])

    def test_exchanged_letters_tell_the_same(self):
        draw = random.Random(5)
        for _ in range(40):
            pairs = drawn_pairs(draw, 4, ("", "k", "s", "t"), "aou")
            one, other = draw.choice((("k", "s"), ("s", "z"), ("a", "u"), ("o", "e")))
            turned = [(sign, exchanged(value, one, other)) for sign, value in pairs]
            self.assertEqual(Values(turned).sayings(), Values(pairs).sayings())

    def test_fits(self):
        draw = random.Random(6)
        fitted = 0
        for grid in draw.sample(all_grids(["a", "b", "c", "d"]), 60):
            for _ in range(6):
                many = draw.randint(1, 4)
                pairs = list(zip(draw.sample("abcd", many), [one for _, one in drawn_pairs(draw, many)]))
                plain = all((grid.rows["abcd".index(one)] == grid.rows["abcd".index(other)]) == (its[:-1] == mine[:-1])
                            and (grid.columns["abcd".index(one)] == grid.columns["abcd".index(other)]) == (its[-1] == mine[-1])
                            for (one, mine), (other, its) in itertools.combinations(pairs, 2))
                self.assertIs(Values(pairs).fits(grid=grid), plain)
                fitted += plain and many > 1
        self.assertGreater(fitted, 10)
        grid = Grid(EIGHT, [0, 0, 0, 0, 0, 1, 1, 1], [0, 1, 2, 3, 4, 0, 1, 2])
        pairs = list(zip(EIGHT, ["a", "e", "i", "o", "u", "za", "ze", "zi"]))
        self.assertIs(Values(pairs).fits(grid), True)
        self.assertIs(Values([*pairs[:-1], ("h", "zo")]).fits(grid), False)

    def test_fit_errors(self):
        values = Values([("y", "ko"), ("b", "ka"), ("x", "so")])
        for value in (None, 0, "a : 0 : 0", SAME, values):
            self.refuses(BadGrid("grid"), values.fits, value)
        self.refuses(NoSign("b"), values.fits, Grid(["a", "y"], (0, 1), (0, 1)))
        self.refuses(NoSign("x"), values.fits, Grid(["a", "b"], (0, 1), (0, 1)))
        self.refuses(NoSign("b"), Values([("b", "ka")]).fits, Grid(["a", "y"], (0, 1), (0, 1)))
        for value in (None, 0, "a", "", ["y"], SAME):
            self.refuses(NoSign(value), values.value, value)

    def test_errors(self):
        for value in NO_LISTS + [[], (), ["ako"], [("a",)], [("a", "ko", "x")], [["a", "ko"], None], [("a", "ko"), "bo"], {"a": "ko"},
                                 [{"a", "ko"}], [{"a": 1, "ko": 2}]]:
            self.refuses(BadValue("pairs"), Values, value)
        for value in NO_NAMES:
            self.refuses(BadValue("pairs"), Values, [("a", "ko"), (value, "so")])
        for value in NO_VALUES:
            self.refuses(BadValue("pairs"), Values, [("a", "ko"), ["b", value]])

    def test_twice(self):
        for pairs, first in (([("a", "ko"), ("a", "ka")], "a"), ([("a", "ko"), ("b", "ko")], "ko"), ([("a", "ko"), ("a", "ko")], "a"),
                             ([("a", "ko"), ("b", "ka"), ("c", "ka"), ("a", "so")], "ka"),
                             ([("a", "ko"), ("b", "ka"), ("b", "so"), ("c", "ko")], "b"),
                             ([("a", "o"), ("o", "a"), ("i", "o")], "o"), ([("a", "o"), ("o", "a"), ("a", "a")], "a")):
            self.refuses(Twice(first), Values, pairs)

    def test_too_many(self):
        nine = list(zip([*EIGHT, "i"], ["a", "e", "i", "o", "u", "ka", "ke", "ki", "ko"]))
        self.refuses(TooMany("signs", 8), Values, nine)
        self.refuses(Twice("a"), Values, [*nine, ("a", "zo")])
        self.refuses(Twice("ko"), Values, [*nine, ("j", "ko")])
        self.assertEqual(len(Values(nine[:8]).sayings()), 56)


if __name__ == "__main__":
    unittest.main()
