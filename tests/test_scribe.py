"""The scribe's words, and squares of words: beside a plain look at all places, and a plain going through all fours."""

import itertools
import random
import unittest

from mutesigns.answers import sure_sayings
from mutesigns.books import Book
from mutesigns.check_sheets import shows_reading
from mutesigns.cuttings import Cutting, cuttings, sayings_by
from mutesigns.errors import BadGrid, BadSheet, BadWord, NoSign, TooMany
from mutesigns.grids import Grid
from mutesigns.scribe import squares, written
from mutesigns.sheetgaps import Reading, words_in
from support import NO_LISTS, NO_NAMES, SAME, Case
from test_beside import drawn_grid
from test_books import EIGHT
from test_listing import NO_GRIDS
from test_sheets import NO_WORDS

KMNP = Grid(["k", "m", "n", "p"], [0, 1, 0, 1], [0, 0, 1, 1])
NAMES = ["one", "two", "p", "q9"]


def cell_of(grid, stem, ending):
    """The word of a stem and an ending, told plainly: by a look at all places."""
    places = {(row, column): sign for sign, row, column in zip(grid.signs, grid.rows, grid.columns)}
    where = {sign: place for place, sign in places.items()}
    sign = places.get((where[stem[1]][0], where[ending[0]][1]))
    word = None if sign is None else (*stem[0], sign, *ending[1])
    return None if word is None or len(word) > 6 else word


def drawn_tables(draw, grid, most=4, longest=5):
    """Stems and endings for a scribe."""
    def part():
        return [draw.choice(grid.signs) for _ in range(draw.choice((0, 0, 1, 1, 2, draw.randint(0, longest))))]
    stems = {name: draw.choice((list, tuple))((part(), draw.choice(grid.signs))) for name in draw.sample(NAMES, draw.randint(1, most))}
    endings = {name: draw.choice((list, tuple))((draw.choice(grid.signs), tuple(part()))) for name in draw.sample(NAMES, draw.randint(1, most))}
    return stems, endings


def cells_of(grid, stems, endings):
    return tuple(tuple(cell_of(grid, stem, ending) for ending in endings.values()) for stem in stems.values())


def do_all_have(cells):
    return all(any(row) for row in cells) and all(any(column) for column in zip(*cells))


def drawn_written(seed, count, signs=(1, 8)):
    draw = random.Random(seed)
    found = []
    while len(found) < count:
        grid = drawn_grid(draw, draw.randint(*signs), draw.choice((3, 3, 4)))
        stems, endings = drawn_tables(draw, grid)
        if do_all_have(cells_of(grid, stems, endings)):
            found.append((grid, stems, endings))
    return found


class Written(Case):
    def test_drawn(self):
        gaps = lengths = 0
        for grid, stems, endings in drawn_written(1, 300):
            sheet = written(grid, stems, endings)
            self.assertEqual((sheet.stems, sheet.endings), (tuple(stems), tuple(endings)))
            self.assertEqual(sheet.cells, cells_of(grid, stems, endings))
            self.assertEqual(sheet, written(endings=endings, stems=stems, grid=grid))
            gaps += len(sheet.gaps)
            lengths = max([lengths, *[len(word) for row in sheet.cells for word in row if word]])
        self.assertTrue(gaps > 50 and lengths == 6)

    def test_without_a_word(self):
        """A stem or an ending without a word is no sheet."""
        draw = random.Random(2)
        many = 0
        for _ in range(300):
            grid = drawn_grid(draw, draw.randint(1, 6), 4)
            stems, endings = drawn_tables(draw, grid)
            if not do_all_have(cells_of(grid, stems, endings)):
                many += 1
                self.refuses(BadSheet("cells"), written, grid, stems, endings)
        self.assertGreater(many, 50)

    def test_six_signs_and_seven(self):
        stems = {"s": (["k"] * 3, "k"), "t": ([], "k")}
        self.assertEqual(written(KMNP, stems, {"e": ("k", ["p"] * 2)}).word_at("s", "e"), ("k", "k", "k", "k", "p", "p"))
        self.assertEqual(written(KMNP, stems, {"e": ("k", ["p"] * 3), "f": ("n", [])}).cells, ((None, ("k", "k", "k", "n")), (("k", "p", "p", "p"), ("n",))))
        self.refuses(BadSheet("cells"), written, KMNP, {"s": (["k"] * 3, "k")}, {"e": ("k", ["p"] * 3)})
        self.assertEqual(written(KMNP, {"s": (["k"] * 5, "k")}, {"e": ("m", [])}).cells, (((*["k"] * 5, "k"),),))

    def test_crossed(self):
        """The crossed grid, stems and endings exchanged, bodies and tails read from behind: the crossed sheet."""
        for grid, stems, endings in drawn_written(3, 80):
            crossed = written(grid.crossed(), {name: (list(tail)[::-1], sign) for name, (sign, tail) in endings.items()},
                              {name: (sign, list(body)[::-1]) for name, (body, sign) in stems.items()})
            self.assertEqual(crossed, written(grid, stems, endings).crossed())

    def test_a_reading(self):
        """The lengths are a cutting of the sheet, the grid keeps its sayings; no word is sure but that of this reading."""
        for grid, stems, endings in drawn_written(4, 60, (1, 4)):
            sheet = written(grid, stems, endings)
            cutting = Cutting([len(body) for body, _ in stems.values()], [len(tail) for _, tail in endings.values()])
            if len(cutting_list := self.cuttings_of(sheet)) == 0:
                continue
            self.assertIn(cutting, cutting_list)
            self.assertTrue(all(grid.holds(saying) for saying in sayings_by(sheet, cutting)))
            book = Book(grid.signs, [saying for saying in grid.sayings()][::3])
            self.assertIs(shows_reading(book, sheet, Reading(cutting, grid)), True)
            for (stem, told), (ending, more) in itertools.product(stems.items(), endings.items()):
                words = words_in(book, sheet, stem, ending)
                word = sheet.word_at(stem, ending)
                standing = [sign for sign in grid.signs if grid.place(sign) == (grid.place(told[1])[0], grid.place(more[0])[1])]
                own = (*told[0], *(standing or [None]), *more[1])
                self.assertIn(own, words)
                if word:
                    self.assertEqual((words, word), ((own,), own))
                else:
                    self.assertTrue(None in own or len(own) > 6)
            surely = sure_sayings(Book(grid.signs, [*book.facts, *sayings_by(sheet, cutting)][:12]))
            self.assertTrue(all(grid.holds(saying) for saying in surely))

    def cuttings_of(self, sheet):
        try:
            return cuttings(sheet)
        except TooMany:
            return ()

    def test_what_is_passed_may_change(self):
        body = ["p"]
        stems, endings = {"one": (body, "k")}, {"a": ["k", []]}
        sheet = written(KMNP, stems, endings)
        body.append("q")
        endings["a"][1].append("m")
        stems["two"] = ([], "m")
        self.assertEqual(str(sheet), "one / a : p+k")

    def test_tables(self):
        right = {"grid": KMNP, "stems": {"s": ([], "k")}, "endings": {"e": ("k", [])}}
        bad = [None, 0, "s", [("s", ([], "k"))], {}, [], SAME, {"s": None}, {"s": []}, {"s": "k"}, {"s": {0: [], 1: "k"}}]
        bad += [{name: ([], "k")} for name in NO_NAMES if name is not SAME and not isinstance(name, list)]
        for stems in bad + [{"s": ([],)}, {"s": ([], "k", 0)}, {"s": ("k", [])}, {"s": ("", "k")}, {"s": ("kk", "k")}, {"s": (None, "k")}, {"s": (["k"] * 6, "k")},
                            {"s": ([], "k"), "t": None}, {"s": (["k", 0], "k")}, {"s": ([], ["k"])}, {"s": ({"k": 1}, "k")}]:
            self.refuses(BadWord("stems"), written, **{**right, "stems": stems})
        for endings in bad + [{"e": ([],)}, {"e": ("k", [], 0)}, {"e": ([], "k")}, {"e": ("k", "")}, {"e": ("k", None)}, {"e": ("k", ["k"] * 6)},
                              {"e": ("k", []), "f": 0}, {"e": ("k", ["k", None])}, {"e": (["k"], [])}]:
            self.refuses(BadWord("endings"), written, **{**right, "endings": endings})
        written(**{**right, "stems": {"s": (["k"] * 5, "k")}})
        written(**{**right, "endings": {"e": ("k", ["k"] * 5)}})

    def test_order(self):
        right = {"grid": KMNP, "stems": {"s": ([], "k")}, "endings": {"e": ("k", [])}}
        faults = [(BadGrid("grid"), {"grid": None}), (BadWord("stems"), {"stems": {}}), (BadWord("endings"), {"endings": {}})]
        self.refuses_in_order(written, right, faults)
        self.refuses_in_order(written, right, [(BadWord("endings"), {"endings": None}), (NoSign("x"), {"stems": {"s": (["k", "x"], "y")}})])
        for value in NO_GRIDS:
            self.refuses(BadGrid("grid"), written, value, None, None)
        for stems, endings, sign in (
                ({"s": (["k", "x"], "y")}, {"e": ("z", [])}, "x"), ({"s": (["k"], "y")}, {"e": ("z", [])}, "y"),
                ({"s": ([], "k"), "t": (["u"], "w")}, {"e": ("z", [])}, "u"), ({"s": ([], "k")}, {"e": ("k", []), "f": ("z", ["v"])}, "z"),
                ({"s": ([], "k")}, {"e": ("k", ["m", "v"]), "f": ("z", [])}, "v"), ({"s": ([], "z"), "t": (["x"], "k")}, {"e": ("k", [])}, "z")):
            self.refuses(NoSign(sign), written, KMNP, stems, endings)
        five = {name: ([], "k") for name in ("a", "b", "c", "d", "e")}
        tails = {name: ("k", []) for name in five}
        self.refuses(TooMany("stems", 4), written, KMNP, five, tails)
        self.refuses(TooMany("endings", 4), written, KMNP, {"s": ([], "k")}, tails)
        self.refuses(BadSheet("cells"), written, KMNP, {**five, "f": (["k"] * 5, "k")}, {"e": ("k", ["k"])})
        self.refuses(NoSign("x"), written, KMNP, {**five, "f": ([], "x")}, tails)


def parts_at(word, at):
    """The body and the tail of a word that has its seam there."""
    return word[:at], word[at + 1:]


def plain_squares(words):
    """All squares, told plainly: all fours of numbers, all lengths of the two bodies."""
    found = set()
    for w, x, y, z in itertools.permutations(range(len(words)), 4):
        if w > min(x, y, z):
            continue
        for body, other in itertools.product(range(len(words[w])), range(len(words[y]))):
            if body < len(words[x]) and other < len(words[z]):
                (head, tail), (head_x, tail_x) = parts_at(words[w], body), parts_at(words[x], body)
                (head_y, tail_y), (head_z, tail_z) = parts_at(words[y], other), parts_at(words[z], other)
                if head == head_x != head_y == head_z and tail == tail_y != tail_x == tail_z:
                    found.add((w, x, y, z, body))
    return tuple(sorted(found))


class Squares(Case):
    def test_drawn(self):
        draw = random.Random(5)
        many = []
        for _ in range(250):
            words = [tuple(draw.choice("ab" if draw.random() < 0.6 else "abc") for _ in range(draw.randint(1, 4))) for _ in range(draw.randint(0, 8))]
            found = squares([draw.choice((list, tuple))(word) for word in words])
            self.assertEqual(found, plain_squares(words))
            self.assertEqual(found, squares(words=tuple(words)))
            many.append(len(found))
        self.assertTrue(many.count(0) > 10 and max(many) > 5)

    def test_of_sheets(self):
        """The words of two stems and two endings are a square."""
        for grid, stems, endings in drawn_written(6, 80):
            sheet = written(grid, stems, endings)
            words = [word for row in sheet.cells for word in row if word][:8]
            self.assertEqual(squares(words), plain_squares(words))

    def test_each(self):
        self.assertEqual(squares([["u", "k"], ["u", "n", "r"], ["v", "m"], ["v", "p", "r"]]), ((0, 1, 2, 3, 1),))
        self.assertEqual(squares([["k"], ["n", "r"], ["v", "m"], ["v", "p", "r"]]), ((0, 1, 2, 3, 0),))
        self.assertEqual(squares([["u", "k"], ["v", "m"], ["u", "n", "r"], ["v", "p", "r"]]), ((0, 2, 1, 3, 1),))
        self.assertEqual(squares([["v", "p", "r"], ["v", "m"], ["u", "n", "r"], ["u", "k"]]), ((0, 1, 2, 3, 1),))
        self.assertEqual((squares([]), squares([["a"]] * 8), squares([["a", "b"]] * 4)), ((), (), ()))
        self.assertEqual(squares([["a", "a"], ["a", "a"], ["a"], ["a", "a", "a"]]), plain_squares([("a", "a"), ("a", "a"), ("a",), ("a", "a", "a")]))
        self.assertEqual(squares([["k"], ["n"], ["m"], ["p"]]), ())

    def test_largest(self):
        """Eight long words of few signs."""
        for words in ([("a",) * many for many in (1, 2, 3, 4, 5, 6, 5, 6)], [tuple("ab" * 3)] * 4 + [tuple("ba" * 3)] * 4):
            self.assertEqual(squares(words), plain_squares(words))

    def test_errors(self):
        for value in NO_LISTS + [[None], ["ab"], [SAME], [("a",), None], {("a",): 1}, *[[["a"], word] for word in NO_WORDS]]:
            self.refuses(BadWord("words"), squares, value)
        self.refuses(BadWord("words"), squares, [["a"]] * 8 + [[]])
        self.refuses(TooMany("words", 8), squares, [["a"]] * 9)


if __name__ == "__main__":
    unittest.main()
