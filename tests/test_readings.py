"""Known signs of grids, and which signs they read: beside a plain look at all lots of signs, and all lots of lines."""

import itertools
import random
import unittest

from bending import ODD, bent_paper, both_sorts, is_row
from mutesigns.check_reading import shows_fewest_known
from mutesigns.errors import BadGrid, BadWord, NoSign, Twice
from mutesigns.grids import Grid
from mutesigns.known import FewestKnown, all_fewest_known, fewest_known
from mutesigns.papers import Denial, Paper
from mutesigns.readings import next_known, read_in
from support import NO_LISTS, SAME, Case
from test_beside import drawn_grid
from test_books import EIGHT
from test_grids import all_grids
from test_listing import NO_GRIDS

PATH = Grid(["a", "b", "c"], [0, 0, 1], [0, 1, 1])
SQUARE = Grid(["a", "b", "c", "d"], [0, 0, 1, 1], [0, 1, 0, 1])


def drawn_grids(seed, count):
    """Grids of one to eight signs."""
    draw = random.Random(seed)
    return [drawn_grid(draw, draw.randint(1, 8), draw.choice((3, 4, 4, 6))) for _ in range(count)]


def word_of(grid, known, sign):
    """On which sides a sign is read, told plainly."""
    place = dict(zip(grid.signs, zip(grid.rows, grid.columns)))
    on_row = any(place[one][0] == place[sign][0] for one in known)
    on_column = any(place[one][1] == place[sign][1] for one in known)
    return {(True, True): "both", (True, False): "row", (False, True): "column", (False, False): "none"}[on_row, on_column]


def many_read(grid, known):
    return [word_of(grid, known, sign) for sign in grid.signs].count("both")


def are_enough(grid, known):
    return many_read(grid, known) == len(grid.signs)


def lots_enough(grid):
    """All lots of signs that are enough, as few as can be."""
    for size in range(len(grid.signs) + 1):
        found = [lot for lot in itertools.combinations(grid.signs, size) if are_enough(grid, lot)]
        if found:
            return tuple(found)


def line_of(grid, side, sign):
    """The signs on a line, told plainly."""
    numbers = dict(zip(grid.signs, grid.rows if side == "row" else grid.columns))
    return frozenset(one for one in grid.signs if numbers[one] == numbers[sign])


def is_fewest_known(grid, value):
    """Whether it is a right FewestKnown, told plainly: as few signs as can be, and as many lines that do not meet."""
    if type(value) is not FewestKnown or not is_row(value.signs) or not is_row(value.lines):
        return False
    if not all(type(sign) is str and sign in grid.signs for sign in value.signs):
        return False
    if tuple(sorted(value.signs)) not in lots_enough(grid) or len(value.lines) != len(value.signs):
        return False
    if not all(is_row(line, 2) and all(type(one) is str for one in line) and line[0] in ("row", "column")
               and line[1] in grid.signs for line in value.lines):
        return False
    lots = [line_of(grid, *line) for line in value.lines]
    return not any(one & other for one, other in itertools.combinations(lots, 2))


class ReadIn(Case):
    def test_drawn(self):
        draw = random.Random(1)
        words = set()
        for grid in drawn_grids(2, 200):
            known = draw.sample(grid.signs, draw.randint(0, len(grid.signs)))
            found = read_in(grid, known)
            self.assertEqual(found, tuple((sign, word_of(grid, known, sign)) for sign in grid.signs))
            self.assertEqual(found, read_in(known=tuple(sorted(known)), grid=grid))
            words |= {word for sign, word in found}
        self.assertEqual(words, {"both", "row", "column", "none"})

    def test_crossed_and_renamed(self):
        draw = random.Random(3)
        turned = {"both": "both", "none": "none", "row": "column", "column": "row"}
        for grid in drawn_grids(4, 60):
            known = draw.sample(grid.signs, draw.randint(0, len(grid.signs)))
            self.assertEqual(read_in(grid.crossed(), known), tuple((sign, turned[word]) for sign, word in read_in(grid, known)))
            names = dict(zip(grid.signs, draw.sample(EIGHT, len(grid.signs))))
            there = read_in(grid.renamed(names), [names[sign] for sign in known])
            self.assertEqual(there, tuple(sorted((names[sign], word) for sign, word in read_in(grid, known))))

    def test_next_known(self):
        draw = random.Random(5)
        ends = []
        for grid in drawn_grids(6, 250):
            known = draw.sample(grid.signs, draw.randint(0, len(grid.signs)))
            found = next_known(grid, known)
            self.assertEqual(found, next_known(known=tuple(known), grid=grid))
            ends.append(found is None)
            if are_enough(grid, known):
                self.assertIsNone(found)
                continue
            waiting = [sign for sign in grid.signs if sign not in known]
            self.assertEqual(found, max(waiting, key=lambda sign: (many_read(grid, [*known, sign]), -grid.signs.index(sign))))
        both_sorts(self, ends)

    def test_edges(self):
        one = Grid(["q"], [0], [0])
        self.assertEqual((read_in(one, []), read_in(one, ["q"])), ((("q", "none"),), (("q", "both"),)))
        self.assertEqual((next_known(one, []), next_known(one, ("q",))), ("q", None))
        self.assertEqual((fewest_known(one).signs, len(fewest_known(one).lines), all_fewest_known(one)), (("q",), 1, (("q",),)))
        self.assertEqual((next_known(PATH, ["a", "c"]), read_in(PATH, ["a", "c"])[1]), (None, ("b", "both")))
        self.assertEqual(next_known(SQUARE, ["b"]), "c")

    def test_errors(self):
        for call in (read_in, next_known):
            right = {"grid": PATH, "known": ["a"]}
            self.refuses_in_order(call, right, [(BadGrid("grid"), {"grid": None}), (BadWord("known"), {"known": "ab"})])
            for value in NO_GRIDS:
                self.refuses(BadGrid("grid"), call, value, None)
            for value in NO_LISTS:
                self.refuses(BadWord("known"), call, PATH, value)
            for known, value in ((["a", "x", "y"], "x"), (["a", "a", "x"], "x"), ([None], None), (["a", ["b"]], ["b"]), ([0], 0),
                                 (["ab"], "ab"), ([""], ""), ([("a",)], ("a",)), ([True], True), ([{}], {})):
                self.refuses(NoSign(value), call, PATH, known)
                self.refuses(NoSign(value), call, PATH, tuple(known))
            self.refuses(Twice("a"), call, PATH, ["b", "a", "c", "a", "b"])


class Fewest(Case):
    def check(self, grid):
        found = fewest_known(grid)
        self.assertEqual((type(found), found.kind, bool(found)), (FewestKnown, "fewestknown", True))
        self.assertEqual(found, fewest_known(grid=grid))
        lots = lots_enough(grid)
        self.assertEqual(all_fewest_known(grid), lots)
        self.assertEqual(all_fewest_known(grid=grid), lots)
        self.assertIn(found.signs, lots)
        self.assertEqual(len(found.lines), len(found.signs))
        self.assertEqual(list(found.lines), sorted(set(found.lines)))
        for side, sign in found.lines:
            self.assertEqual(sign, min(line_of(grid, side, sign)))
        self.assertTrue(is_fewest_known(grid, found))
        self.assertIs(shows_fewest_known(grid, found), True)

    def test_drawn(self):
        for grid in drawn_grids(7, 250):
            self.check(grid)

    def test_all_of_four_signs(self):
        for many in (1, 2, 3, 4):
            for grid in all_grids(EIGHT[:many]):
                self.check(grid)

    def test_largest(self):
        for rows, columns in (([0] * 8, range(8)), (range(8), range(8)), ([0, 0, 1, 1, 2, 2, 3, 3], [0, 1, 1, 2, 2, 3, 3, 0]),
                              ([0, 0, 0, 0, 1, 1, 1, 1], [0, 1, 2, 3, 0, 1, 2, 3])):
            self.check(Grid(EIGHT, list(rows), list(columns)))

    def test_fact_of_lines(self):
        """As many lines as the fewest signs: all lines less the most signs no two of which share a line."""
        for grid in drawn_grids(8, 60):
            places = list(zip(grid.rows, grid.columns))
            most = max(size for size in range(len(places) + 1) for lot in itertools.combinations(places, size)
                       if len({row for row, _ in lot}) == size == len({column for _, column in lot}))
            self.assertEqual(len(fewest_known(grid).signs), grid.many_rows + grid.many_columns - most)

    def test_bent(self):
        draw = random.Random(9)
        found = []
        for grid in drawn_grids(10, 150):
            pool = [*ODD, *EIGHT[:4], ("row", "a"), ("column", "b"), ["row", "c"], ("row", "x"), ("side", "a")]
            for lot in random.Random(1).sample(lots_enough(grid), min(3, len(lots_enough(grid)))):
                paper = FewestKnown(draw.sample(lot, len(lot)), [(side, draw.choice(sorted(line_of(grid, side, sign))))
                                                                 for side, sign in draw.sample(fewest_known(grid).lines, len(lot))])
                self.assertIs(shows_fewest_known(grid, paper), True)
                for _ in range(6):
                    value = bent_paper(draw, paper, pool)
                    found.append(is_fewest_known(grid, value))
                    self.assertIs(shows_fewest_known(value=value, grid=grid), found[-1], (str(grid), value.parts))
        both_sorts(self, found)

    def test_each(self):
        for signs, lines, is_right in (
                (["a", "c"], [["row", "a"], ["row", "c"]], True), (["b", "a"], [["row", "a"], ["row", "c"]], False),
                (["c", "a"], [["column", "c"], ["column", "a"]], True), (["a", "c"], [["row", "a"], ["row", "b"]], False),
                (["a", "c"], [["row", "a"]], False), (["a"], [["row", "a"]], False), (["a", "b", "c"], [["row", "a"], ["row", "c"]], False),
                (["a", "c"], [["row", "a"], ["column", "b"]], False), (["a", "c", "c"], [["row", "a"], ["row", "c"], ["row", "c"]], False),
                (["a", "c"], [["row", "a"], ["row", "c"], ["column", "a"]], False), ([], [], False), ("ac", [["row", "a"], ["row", "c"]], False)):
            self.assertIs(shows_fewest_known(PATH, FewestKnown(signs, lines)), is_right, (signs, lines))
        right = fewest_known(PATH)
        for value in (None, SAME, right.parts, Paper("fewestknown", *right.parts), Denial("fewestknown", *right.parts), "fewestknown"):
            self.assertIs(shows_fewest_known(PATH, value), False)

    def test_errors(self):
        for value in NO_GRIDS:
            for call, more in ((fewest_known, ()), (all_fewest_known, ()), (shows_fewest_known, (None,))):
                self.refuses(BadGrid("grid"), call, value, *more)


if __name__ == "__main__":
    unittest.main()
