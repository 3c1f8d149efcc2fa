"""Cuttings of sheets: beside a plain going through all bodies and tails."""

import itertools
import random
import unittest

from mutesigns.cuttings import Cutting, cuttings, sayings_by, seams, seams_at, tied_lots
from mutesigns.errors import BadCutting, BadSheet, Misfit, NoEnding, NoStem, TooMany
from mutesigns.sayings import Saying
from mutesigns.sheets import Sheet
from support import NO_INTEGERS, NO_LISTS, SAME, Case
from test_sheets import SHEET, drawn_sheet

ALL = range(6)


def cells_of(sheet):
    """The words of the cells that have one, stem by stem."""
    return {(stem, ending): word for stem, row in zip(sheet.stems, sheet.cells)
            for ending, word in zip(sheet.endings, row) if word is not None}


def is_tail(sheet, ending, bodies, tail):
    """Whether the words of an ending, cut behind the bodies, end with one tail of this length."""
    words = [(word, bodies[sheet.stems.index(stem)]) for (stem, its), word in cells_of(sheet).items() if its == ending]
    return len({word[body + 1:] for word, body in words}) == 1 and all(len(word) == body + 1 + tail for word, body in words)


def plain_cuttings(sheet):
    """All pairs (bodies, tails) that fit, ascending."""
    found = []
    for bodies in itertools.product(ALL, repeat=len(sheet.stems)):
        begins = [{word[:body] for (mine, ending), word in cells_of(sheet).items() if mine == stem}
                  for stem, body in zip(sheet.stems, bodies)]
        if all(len(begin) == 1 for begin in begins):
            tails = [[tail for tail in ALL if is_tail(sheet, ending, bodies, tail)] for ending in sheet.endings]
            found += [(bodies, told) for told in itertools.product(*tails)]
    return sorted(found)


def plain_seams(sheet, bodies):
    return {(stem, ending): word[bodies[sheet.stems.index(stem)]] for (stem, ending), word in cells_of(sheet).items()}


def plain_sayings(sheet, bodies):
    told = plain_seams(sheet, bodies)
    twos = {("row" if at == 0 else "column", *sorted((told[one], told[other])))
            for one, other in itertools.combinations(told, 2) for at in range(2)
            if one[at] == other[at] and told[one] != told[other]}
    return [Saying(*two) for two in sorted(twos)]


def cut_sheet(draw, most=3, signs="abcd", gap=0.3, lengths=(0, 1, 1, 2)):
    """A sheet that some cutting fits."""
    stems, endings = ["one", "two", "p", "q"][:draw.randint(1, most)], ["e", "f", "g", "one"][:draw.randint(1, most)]
    bodies = [draw.choices(signs, k=draw.choice(lengths)) for _ in stems]
    tails = [draw.choices(signs, k=draw.choice(lengths)) for _ in endings]
    shape = drawn_sheet(draw, gap=gap)
    while len(shape.stems) != len(stems) or len(shape.endings) != len(endings):
        shape = drawn_sheet(draw, gap=gap)
    cells = [[None if shape.cells[at][to] is None else [*bodies[at], draw.choice(signs), *tails[to]]
              for to in range(len(endings))] for at in range(len(stems))]
    return Sheet(stems, endings, cells)


def parts(cutting):
    return (cutting.bodies, cutting.tails)


class Cuttings(Case):
    def check(self, sheet):
        plain = plain_cuttings(sheet)
        if len(plain) > 36:
            self.refuses(TooMany("cuttings", 36), cuttings, sheet)
            return "many"
        found = cuttings(sheet=sheet)
        self.assertIsInstance(found, tuple)
        self.assertEqual([parts(cutting) for cutting in found], plain)
        for cutting in found:
            self.check_cutting(sheet, cutting)
        return "none" if not plain else "one" if len(plain) == 1 else "some"

    def check_cutting(self, sheet, cutting):
        told = plain_seams(sheet, cutting.bodies)
        self.assertEqual(seams(sheet, cutting), tuple((*cell, sign) for cell, sign in told.items()))
        self.assertEqual(sayings_by(cutting=cutting, sheet=sheet), tuple(plain_sayings(sheet, cutting.bodies)))
        for stem, ending in itertools.product(sheet.stems, sheet.endings):
            first = next(sign for (mine, its), sign in told.items() if mine == stem)
            second = next(sign for (mine, its), sign in told.items() if its == ending)
            self.assertEqual(seams_at(sheet, cutting, stem, ending), (first, second))

    def test_drawn_cut_ones(self):
        draw = random.Random(1)
        found = [self.check(cut_sheet(draw, draw.choice((1, 2, 3, 3, 4)), gap=draw.choice((0.1, 0.4, 0.7)))) for _ in range(150)]
        self.assertTrue(all(found.count(sort) > 5 for sort in ("one", "some")), found)
        self.assertNotIn("none", found)

    def test_drawn_ones_of_one_sign(self):
        draw = random.Random(2)
        found = [self.check(cut_sheet(draw, draw.choice((2, 3, 4)), "a", 0.6, (0, 1, 2))) for _ in range(60)]
        self.assertTrue(all(found.count(sort) > 3 for sort in ("one", "some")), found)

    def test_drawn_at_random(self):
        draw = random.Random(3)
        found = [self.check(drawn_sheet(draw, 2, "ab", 3)) for _ in range(120)]
        self.assertTrue(all(found.count(sort) > 5 for sort in ("none", "one", "some")), found)

    def test_words_of_six_signs(self):
        word = list("abcdef")
        self.assertEqual([parts(one) for one in cuttings(Sheet(["s"], ["e"], [[word]]))], [((at,), (5 - at,)) for at in ALL])
        self.assertEqual([parts(one) for one in cuttings(Sheet(["s"], ["e", "f"], [[word, word[::-1]]]))], [((0,), (5, 5))])
        self.assertEqual(cuttings(Sheet(["s"], ["e", "f"], [[word, word]]))[5], Cutting([5], [0, 0]))

    def test_just_thirty_six(self):
        six = ["a"] * 6
        self.assertEqual(len(cuttings(Sheet(["s", "t"], ["e", "f"], [[six, None], [None, six]]))), 36)
        self.refuses(TooMany("cuttings", 36), cuttings,
                     Sheet(["s", "t", "u"], ["e", "f", "g"], [[six, None, None], [None, six, None], [None, None, ["a"] * 2]]))
        none = Sheet(["s", "t", "u"], ["e", "f", "g"], [[six, None, None], [None, ["a"], ["a"] * 2], [None, ["a"], ["a"]]])
        self.assertEqual(cuttings(none), ())
        five = [["a"] * 5 if at == to else None for at in range(4) for to in range(4)]
        self.refuses(TooMany("cuttings", 36), cuttings, Sheet(list("pqrs"), list("efgh"), [five[at:at + 4] for at in range(0, 16, 4)]))

    def test_one_more_word(self):
        draw = random.Random(4)
        seen = set()
        for sheet in [cut_sheet(draw, 3, "ab", 0.5) for _ in range(120)]:
            if sheet.gaps and len(plain_cuttings(sheet)) <= 36:
                more = sheet.with_word(*sheet.gaps[0], draw.choices("ab", k=draw.randint(1, 3)))
                ahead = {parts(one): sayings_by(sheet, one) for one in cuttings(sheet)}
                for cutting in cuttings(more):
                    told = ahead[parts(cutting)]
                    self.assertTrue(all(saying in sayings_by(more, cutting) for saying in told))
                    seen.add(len(told) < len(sayings_by(more, cutting)))
        self.assertEqual(seen, {True, False})

    def test_crossed(self):
        draw = random.Random(5)
        for sheet in [cut_sheet(draw, 3, "abc") for _ in range(60)]:
            if len(plain_cuttings(sheet)) <= 36:
                crossed = sheet.crossed()
                turned = sorted((one.tails, one.bodies) for one in cuttings(sheet))
                self.assertEqual([parts(one) for one in cuttings(crossed)], turned)
                for one in cuttings(sheet):
                    other = Cutting(one.tails, one.bodies)
                    self.assertEqual({(ending, stem, sign) for stem, ending, sign in seams(sheet, one)}, set(seams(crossed, other)))
                    self.assertEqual([str(saying.crossed()) for saying in sayings_by(sheet, one)].sort(),
                                     [str(saying) for saying in sayings_by(crossed, other)].sort())
                    self.assertEqual({str(saying.crossed()) for saying in sayings_by(sheet, one)},
                                     {str(saying) for saying in sayings_by(crossed, other)})

    def test_sayings_once(self):
        sheet = Sheet(["s", "t"], ["e", "f"], [[["b"], ["a"]], [["a"], ["b"]]])
        self.assertEqual([str(one) for one in sayings_by(sheet, Cutting([0, 0], [0, 0]))], ["column a b", "row a b"])
        sheet = Sheet(["s", "t"], ["e", "f", "g"], [[["b"], ["a"], ["b"]], [["b"], ["a"], ["c"]]])
        self.assertEqual([str(one) for one in sayings_by(sheet, Cutting([0, 0], [0, 0, 0]))],
                         ["column b c", "row a b", "row a c", "row b c"])


class TiedLots(Case):
    def test_drawn(self):
        draw = random.Random(6)
        counts = set()
        for sheet in [drawn_sheet(draw, 4, gap=draw.choice((0.2, 0.6, 0.8))) for _ in range(150)]:
            cells = list(cells_of(sheet))
            lots = {cell: {cell} for cell in cells}
            for one, other in itertools.product(cells, repeat=2):
                if (one[0] == other[0] or one[1] == other[1]) and lots[one] is not lots[other]:
                    both = lots[one] | lots[other]
                    lots.update({cell: both for cell in both})
            plain = []
            for cell in cells:
                lot = tuple(other for other in cells if other in lots[cell])
                plain += [] if lot in plain else [lot]
            self.assertEqual(tied_lots(sheet=sheet), tuple(plain))
            counts.add(len(plain))
        self.assertTrue({1, 2, 3} <= counts)

    def test_ways_multiplied(self):
        draw = random.Random(7)
        for sheet in [cut_sheet(draw, 3, "a", 0.6) for _ in range(50)]:
            many = 1
            for lot in tied_lots(sheet):
                stems, endings = sorted({cell[0] for cell in lot}), sorted({cell[1] for cell in lot})
                part = Sheet(stems, endings, [[cells_of(sheet).get((stem, ending)) for ending in endings] for stem in stems])
                many *= len(plain_cuttings(part))
                self.assertLessEqual(len(plain_cuttings(part)), 6)
            self.assertEqual(len(plain_cuttings(sheet)), many)

    def test_of_the_document(self):
        self.assertEqual(tied_lots(SHEET), ((("one", "a"), ("one", "b"), ("two", "a")),))


class CuttingValues(Case):
    def test_attributes(self):
        bodies = [0, 5]
        cutting = Cutting(bodies, tails=(3,))
        bodies.append(1)
        self.assertEqual(parts(cutting), ((0, 5), (3,)))
        self.assertTrue(cutting == Cutting(tails=[3], bodies=(0, 5)))
        for other in (Cutting([0, 5], [2]), Cutting([0], [3]), Cutting([5, 0], [3]), Cutting([3], [0, 5]), ((0, 5), (3,)), None):
            self.assertTrue(cutting != other)
            self.assertFalse(cutting == other)

    def test_errors(self):
        for value in NO_LISTS + [[], (), [6], [-1], [0, 6], "01", [10 ** 70], SAME] + [[0, number] for number in NO_INTEGERS]:
            self.refuses(BadCutting("bodies"), Cutting, value, [0])
            self.refuses(BadCutting("tails"), Cutting, [0], value)
        self.refuses_in_order(Cutting, {"bodies": [0], "tails": [0]},
                              [(BadCutting("bodies"), {"bodies": [6]}), (BadCutting("tails"), {"tails": None})])
        self.assertEqual(len(Cutting([0] * 100, [5] * 100).bodies), 100)


class CuttingErrors(Case):
    def test_order(self):
        right = {"sheet": SHEET, "cutting": Cutting([1, 1], [0, 0])}
        faults = [(BadSheet("sheet"), {"sheet": str(SHEET)}), (BadCutting("cutting"), {"cutting": ((1, 1), (0, 0))})]
        misfit = (Misfit("cutting"), {"cutting": Cutting([0, 0], [1, 1])})
        for call in (seams, sayings_by):
            self.refuses_in_order(call, right, [*faults, misfit])
        names = [(NoStem("a"), {"stem": "a"}), (NoEnding("one"), {"ending": "one"})]
        self.refuses_in_order(seams_at, {**right, "stem": "one", "ending": "a"}, [*faults, *names, misfit])

    def test_misfits(self):
        draw = random.Random(8)
        for sheet in [cut_sheet(draw, 2, "ab") for _ in range(12)] + [SHEET]:
            plain = plain_cuttings(sheet)
            for bodies, tails in itertools.product(itertools.product(range(3), repeat=len(sheet.stems)),
                                                   itertools.product(range(3), repeat=len(sheet.endings))):
                if (bodies, tails) in plain:
                    self.check_right(sheet, Cutting(bodies, tails))
                else:
                    self.check_wrong(sheet, Cutting(bodies, tails))
            for bodies, tails in plain[:1]:
                for other in (Cutting([*bodies, 0], tails), Cutting(bodies, [*tails, 0])):
                    self.check_wrong(sheet, other)
                if len(bodies) > 1:
                    self.check_wrong(sheet, Cutting(bodies[1:], tails))

    def check_right(self, sheet, cutting):
        self.assertEqual(len(seams(sheet, cutting)), len(cells_of(sheet)))

    def check_wrong(self, sheet, cutting):
        self.refuses(Misfit("cutting"), seams, sheet, cutting)
        self.refuses(Misfit("cutting"), sayings_by, sheet, cutting)
        self.refuses(Misfit("cutting"), seams_at, sheet, cutting, sheet.stems[0], sheet.endings[0])
        self.refuses(NoStem("x"), seams_at, sheet, cutting, "x", "y")

    def test_each(self):
        cutting = Cutting([1, 1], [0, 0])
        for value in (None, 0, str(SHEET), [SHEET], SAME, SHEET.cells, cutting):
            for call, more in ((cuttings, ()), (tied_lots, ()), (seams, (cutting,)), (sayings_by, (cutting,)),
                               (seams_at, (cutting, "one", "a"))):
                self.refuses(BadSheet("sheet"), call, value, *more)
        for value in (None, 0, (1, 1), [[1, 1], [0, 0]], SAME, SHEET, [cutting]):
            for call, more in ((seams, ()), (sayings_by, ()), (seams_at, ("one", "a"))):
                self.refuses(BadCutting("cutting"), call, SHEET, value, *more)
        for value in (None, 0, "x", ["one"], SAME, ""):
            self.refuses(NoStem(value), seams_at, SHEET, cutting, value, "a")
            self.refuses(NoEnding(value), seams_at, SHEET, cutting, "one", value)


if __name__ == "__main__":
    unittest.main()
