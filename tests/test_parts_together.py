"""The parts together: of a drawn book one saying is asked by all of them, and all tell the same."""

import random
import unittest

from mutesigns.answers import Never, Open, Sure, answer, sure_sayings, words_of
from mutesigns.asks import rows_had, settles
from mutesigns.asktrees import BestAsk, OneGrid, Plan, best_ask, saying_plan
from mutesigns.bearing import Bears, all_bearing, bearing, bears
from mutesigns.beside import beside_fact, ties_of
from mutesigns.check_answers import shows_answer
from mutesigns.check_asks import shows_settles
from mutesigns.check_slips import shows_bearing
from mutesigns.clashes import Clash, clash
from mutesigns.counts import many_on
from mutesigns.desk import Desk
from mutesigns.enough import Enough, enough
from mutesigns.facts import Fact
from mutesigns.grids import Grid
from mutesigns.lettered import letters_for, sounds_of
from mutesigns.lines import all_laid
from mutesigns.listing import grids, many_grids, number_of, part_of
from mutesigns.namings import Naming, Stands, all_given, lots_standing, stand
from mutesigns.plain import word_in
from mutesigns.possible import grid_of
from mutesigns.readings import read_in
from mutesigns.refusing import grid_with, tree_with
from mutesigns.sayings import Saying
from mutesigns.scribe import squares, written
from mutesigns.sheetgaps import Reading, reading_of, words_in
from mutesigns.sheets import Sheet
from mutesigns.slips import slips
from mutesigns.suregrid import parts_of, sure_grid
from mutesigns.together import Together, together
from mutesigns.turnings import Leads, Turning, leads
from mutesigns.unparted import like_pairs, turning_to
from mutesigns.values import Values
from oracles import drawn_book, drawn_sayings, kept_grids
from support import Case
from test_books import EIGHT


def drawn_asked(seed, count):
    """Books of two to four signs that some grid keeps, a saying of alike, and the grids that keep them."""
    draw = random.Random(seed)
    found = []
    while len(found) < count:
        book = drawn_book(draw, EIGHT[:draw.randint(2, 4)], 5, (None, None, 2, 3))
        one = drawn_sayings(draw, book.signs, 1)[0]
        if grid_of(book):
            found.append((book, Saying(one.side, one.one, one.other), kept_grids(book)))
    return found


class OneSaying(Case):
    def each(self, seed, count=350):
        """Books, sayings, and the word that a plain listing of all grids tells of them; each word comes often."""
        words = []
        for book, saying, kept in drawn_asked(seed, count):
            holding = [grid.holds(saying) for grid in kept]
            words.append("sure" if all(holding) else "open" if any(holding) else "never")
            yield book, saying, kept, words[-1]
        self.assertTrue(all(words.count(word) >= 10 for word in ("sure", "open", "never")), words)

    def test_answers_and_trees(self):
        for book, saying, kept, word in self.each(1):
            found = answer(book, saying)
            self.assertEqual((found.kind, type(found)), (word, {"sure": Sure, "never": Never, "open": Open}[word]))
            self.assertEqual({(side, one, other): told for side, one, other, told in words_of(book)}[saying.side, saying.one, saying.other], word)
            self.assertEqual((tree_with(book, [saying.contrary()]) is not None, tree_with(book, [saying]) is not None), (word == "sure", word == "never"))
            self.assertEqual((grid_with(book, [saying.contrary()]) is None, grid_with(book, [saying]) is None), (word == "sure", word == "never"))
            self.assertEqual((saying in sure_sayings(book), saying.contrary() in sure_sayings(book)), (word == "sure", word == "never"))
            self.assertIs(sure_grid(book).holds(saying), word == "sure")
            self.assertEqual([type(together(book, [one])) is Together for one in (saying, saying.contrary())], [word != "never", word != "sure"])
            if book.is_plain:
                self.assertEqual(word_in(book, saying.side, saying.one, saying.other), word)

    def test_grids_counted(self):
        for book, saying, kept, word in self.each(2):
            self.assertEqual(many_grids(book), len(kept))
            with_it = many_grids(book.with_fact(saying))
            self.assertEqual((with_it == len(kept), with_it == 0), (word == "sure", word == "never"))
            parts = {str(part_of(grid, [saying.one, saying.other])): part_of(grid, [saying.other, saying.one]) for grid in kept}
            self.assertEqual(sum(many_on(book, part) for part in parts.values() if part.holds(saying)), with_it)
            self.assertEqual([number_of(book, grid) for grid in grids(book)], list(range(len(kept))))
            parted = {part for other in kept for part in parts_of(kept[0], other)}
            self.assertIs((saying.side, saying.one, saying.other) in parted, word == "open")

    def test_bearing_and_clashes(self):
        for book, saying, kept, word in self.each(3):
            for one, is_sure in ((saying, word == "sure"), (saying.contrary(), word == "never")):
                found = bearing(book, one)
                self.assertIs(type(found) is Bears, is_sure)
                self.assertIs(bears(book, one, range_of(book)), is_sure)
                self.assertIs(len(all_bearing(book, one)) > 0, is_sure)
                torn = book.with_fact(one.contrary())
                self.assertIs(type(clash(torn)) is Clash, is_sure)
                self.assertIs(bool(slips(torn).numbers), is_sure)
                self.assertIs(shows_bearing(book, one, found), True)
                if is_sure:
                    self.assertIs(shows_answer(book, one, Sure(tree_with(book, [one.contrary()]))), True)

    def test_asks_and_plans(self):
        for book, saying, kept, word in self.each(4):
            ask = (saying.side, saying.one, saying.other)
            self.assertIs(bool(settles(book, saying, [])), word != "open")
            self.assertTrue(settles(book, saying, [ask]))
            self.assertEqual(dict(rows_had(book, [ask])), {(alike,): many for alike in (True, False)
                                                           if (many := sum(grid.holds(saying) is alike for grid in kept))})
            plan = saying_plan(book, saying, [ask])
            self.assertEqual((type(plan), plan.depth), (Plan, 1 if word == "open" else 0))
            self.assertEqual(plan.tree, (ask, True, False) if word == "open" else word == "sure")
            best = best_ask(book)
            self.assertIs(type(best) is OneGrid, len(kept) == 1)
            if type(best) is BestAsk:
                _, yes, no = next(row for row in best.table if row[0] == ask)
                self.assertEqual((yes == 0, no == 0), (word == "never", word == "sure"))
            if word != "open":
                self.assertIs(shows_settles(book, saying, [], settles(book, saying, [])), True)

    def test_turnings(self):
        draw = random.Random(5)
        for book, saying, kept, word in self.each(6):
            turning = Turning(dict(zip(book.signs, draw.sample(EIGHT, len(book.signs)))), draw.choice((True, False)))
            made = turning.made(book)
            self.assertEqual(answer(made, turning.made(saying)).kind, word)
            self.assertIs(type(leads(turning, book, made)), Leads)
            self.assertTrue(turning_to(book, made))
            group = next(group for group in like_pairs(book) if (saying.side, saying.one, saying.other) in group)
            self.assertEqual({answer(book, Saying(*pair)).kind for pair in group}, {word})

    def test_sheets_of_two_words(self):
        """Two words of one stem tell that their seams are alike in rows; of one ending in columns."""
        for book, saying, kept, word in self.each(7):
            if saying.side == "row":
                sheet = Sheet(["s"], ["e", "f"], [[[saying.one], [saying.other]]])
                gap = Sheet(["s", "t"], ["e", "f"], [[[saying.one], [saying.other]], [[saying.one], None]])
            else:
                sheet = Sheet(["s", "t"], ["e"], [[[saying.one]], [[saying.other]]])
                gap = Sheet(["s", "t"], ["e", "f"], [[[saying.one], [saying.one]], [[saying.other], None]])
            found = reading_of(book, sheet)
            self.assertIs(type(found) is Reading, word != "never")
            if found:
                self.assertTrue(found.grid.holds(saying))
                self.assertEqual(words_in(book, gap, "t", "f"), ((saying.other,),))

    def test_heard_words_and_letters(self):
        for book, saying, kept, word in self.each(8):
            one, other = (saying.one, saying.other)
            heard = "kaki" if saying.side == "row" else "kata"
            naming = Naming([one, other], heard, "drop")
            self.assertIs(type(stand(book, [naming])) is Stands, word != "never")
            self.assertEqual([lot for lot, grid in lots_standing(book, [naming]).greatest], [(0,)] if word != "never" else [()])
            if word != "never":
                self.assertIs(saying in all_given(book, [naming]), word == "open")
            found = letters_for(book, Values([(one, "ka")]), saying.side, other)
            self.assertEqual((type(found.rows[0][1]) is Grid, type(found.new) is Grid), (word != "never", word != "sure"))
            letter = "k" if saying.side == "row" else "a"
            sounds = sounds_of(book, Values([(one, "ka")]), [other])[0][0 if saying.side == "row" else 1]
            self.assertEqual(sounds, {"sure": (letter,), "never": (None,), "open": (letter, None)}[word])

    def test_beside(self):
        for book, saying, kept, word in self.each(9):
            fact = beside_fact(saying.one, saying.other)
            beside = [ties_of(grid).are_beside(saying.one, saying.other) for grid in kept]
            self.assertEqual(answer(book, fact).kind, "sure" if all(beside) else "open" if any(beside) else "never")
            if word == "sure":
                self.assertTrue(all(beside))
            for grid in kept[:3]:
                self.assertIn(grid, all_laid(ties_of(grid)))

    def test_known_signs(self):
        for book, saying, kept, word in self.each(10):
            found = enough(book, [saying.one])
            if word == "sure" and type(found) is not Enough:
                self.assertTrue(all(dict(read_in(grid, [saying.one]))[saying.other] in ("both", saying.side) for grid in kept))
            self.assertTrue(enough(book, book.signs))

    def test_a_scribe(self):
        """A reading off a grid that keeps the book: no saying is sure that does not hold in the grid."""
        for book, saying, kept, word in self.each(11):
            grid = kept[0]
            stems = {f"s{sign}": ([sign], sign) for sign in book.signs}
            endings = {f"e{sign}": (sign, [sign]) for sign in book.signs}
            sheet = written(grid, stems, endings)
            found = reading_of(book, sheet)
            self.assertTrue(found)
            if word != "open":
                self.assertIs(grid.holds(saying), word == "sure")
            for stem, ending in sheet.gaps[:2]:
                self.assertIn((stem[1:], None, ending[1:]), words_in(book, sheet, stem, ending))
            words = [one for row in sheet.cells for one in row if one][:6]
            self.assertEqual(squares(words), squares([list(one) for one in words]))

    def test_a_desk(self):
        for book, saying, kept, word in self.each(12):
            desk = Desk()
            self.assertEqual(desk(f"put b book {book}"), "1")
            self.assertEqual(desk.told(f"is b {saying}", "kept b", "grids b", f"bears b {saying}")[:3], (word, "yes", str(len(kept))))
            line = desk(f"with b {saying.side} {saying.one}")
            self.assertIs(saying.other in line.split(" "), word == "sure")
            self.assertIs(desk(f"bears b {saying}") == "no", word != "sure")
            self.assertEqual(desk(f"bears b {saying}"), told_numbers(bearing(book, saying)))
            contrary = saying.contrary()
            if len(book.facts) < 8:
                answers = desk.tried(f"add b {contrary}", "kept b", "grids b", "slips b")
                self.assertEqual(answers[1:3], ("no" if word == "sure" else "yes", str(many_grids(book.with_fact(contrary)))))
            self.assertEqual(desk("show b"), f"book {book}")
            some = Fact([saying, contrary])
            self.assertEqual((desk(f"is b {some}"), desk(f"bears b {some}")), ("sure", "-"))


def range_of(book):
    return list(range(len(book.facts)))


def told_numbers(paper):
    if type(paper) is not Bears:
        return "no"
    return " ".join(str(number) for number in paper.numbers) or "-"


if __name__ == "__main__":
    unittest.main()
