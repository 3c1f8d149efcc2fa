"""Checks on values of all kinds."""

import unittest

from mutesigns.checks import first_twice, is_integer, is_just, is_name, is_numbers, is_side, is_truth, is_within, is_word
from support import NO_INTEGERS, NO_NAMES, NO_SIDES, SAME

ODD = [None, True, False, 0, 1, -1, 1.0, "", "a", "row", b"a", [], (), ["a"], ("a",), {}, {"a": "b"}, {1}, object(), len]


class Checks(unittest.TestCase):
    def just(self, check, right):
        """Of odd values just these are right; the answers are True and False themselves."""
        for value in ODD:
            is_right = any(type(value) is type(one) and value == one for one in right)
            self.assertIs(check(value), is_right, value)
            self.assertIs(check(value=value), is_right, value)

    def test_of_all_kinds(self):
        self.just(is_integer, [0, 1, -1])
        self.just(is_name, ["a", "row"])
        self.just(is_side, ["row"])
        self.just(is_truth, [True, False])
        self.just(is_word, [["a"], ("a",)])
        self.just(is_numbers, [[], ()])
        self.just(lambda value: is_within(value=value, least=None, most=None), [0, 1, -1])

    def test_integers(self):
        self.assertTrue(is_integer(10 ** 5000) and is_integer(-10 ** 5000))
        for value in NO_INTEGERS:
            self.assertIs(is_integer(value), False)

    def test_within(self):
        found = [is_within(value, 2, 4) for value in (1, 2, 3, 4, 5)]
        self.assertEqual(found, [False, True, True, True, False])
        self.assertEqual([is_within(value, 2, None) for value in (-9, 1, 2, 10 ** 99)], [False, False, True, True])
        self.assertEqual([is_within(value, None, -2) for value in (-10 ** 99, -2, -1, 0)], [True, True, False, False])
        self.assertEqual([is_within(value, 3, 2) for value in (2, 3)], [False, False])
        self.assertEqual([is_within(value, 0, 1) for value in NO_INTEGERS], [False] * len(NO_INTEGERS))

    def test_names(self):
        for value in ("a", "z", "a1", "z9", "abcdefghijkl", "a12345678901", "not", "or"):
            self.assertIs(is_name(value), True)
        for value in NO_NAMES + ["abcdefghijklm", "a" * 100000, "a:", ":", "-", "a\u0661", "\u0430"]:
            self.assertIs(is_name(value), False)

    def test_sides(self):
        self.assertEqual([is_side("row"), is_side("column")], [True, True])
        for value in NO_SIDES:
            self.assertIs(is_side(value), False)

    def test_words(self):
        self.assertEqual([is_word(["a"] * many) for many in range(9)], [False] + [True] * 6 + [False] * 2)
        self.assertEqual([is_word(tuple("ab")), is_word("ab"), is_word({"a": 1}), is_word({"a"})], [True] + [False] * 3)
        for value in NO_NAMES:
            self.assertIs(is_word(["a", value]), False)

    def test_numbers(self):
        self.assertEqual([is_numbers([3, -1, 3]), is_numbers((0,)), is_numbers({1}), is_numbers("1")],
                         [True, True, False, False])
        for value in NO_INTEGERS:
            self.assertIs(is_numbers([0, value]), False)

    def test_just(self):
        told = [("length", 0), "a", 0, 1, True, False, None, (), (("a", (1, None)), ("b", True))]
        for one in told:
            for other in [*told, 1.0, 0.0, SAME, [], ["length", 0], ("length", False), (("a", (True, None)), ("b", 1)), (SAME, 0), b"a"]:
                self.assertIs(is_just(other, one), repr(one) == repr(other))

    def test_first_twice(self):
        self.assertEqual(first_twice(["a", "b", "c", "b", "a"]), "b")
        self.assertEqual(first_twice(values=[5, 0, 7, 0, 5]), 0)
        self.assertEqual(first_twice([10 ** 30, 1, 10 ** 30]), 10 ** 30)
        self.assertEqual([first_twice([]), first_twice(["a"]), first_twice([1, 2])], [None, None, None])
        self.assertEqual([first_twice(("a", "a")), first_twice(["a"] * 3)], ["a", "a"])


if __name__ == "__main__":
    unittest.main()
