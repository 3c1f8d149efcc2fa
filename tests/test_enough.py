"""Signs that are enough for a book: beside a plain listing of all grids and of all twos of them."""

import itertools
import random
import unittest

from bending import ODD, bent_paper, both_sorts, is_any_tree, is_grid_in, is_row, is_told
from mutesigns.books import Book
from mutesigns.check_reading import shows_enough, shows_fewest_enough
from mutesigns.enough import Enough, FewestEnough, Twofold, Unread, enough, fewest_enough
from mutesigns.errors import BadBook, BadWord, Impossible, NoSign, TooMany, Twice
from mutesigns.grids import Grid
from mutesigns.listing import many_grids
from mutesigns.papers import Denial, Paper
from mutesigns.possible import Kept, grid_of
from mutesigns.refusing import tree_with
from mutesigns.sayings import Saying
from mutesigns.suregrid import sure_grid
from oracles import drawn_book, is_fork, kept_grids, tupled
from support import NO_LISTS, SAME, Case
from test_books import EIGHT
from test_facts import fact_of, sayings_of
from test_grids import all_grids
from test_listing import NO_BOOKS
from test_plain import drawn_plain_books
from test_readings import are_enough, word_of

ABC = ["a", "b", "c"]
ABCD = ["a", "b", "c", "d"]
FOUR = Book(ABCD, [], 2, 2)
BENT = Book(["k", "l", "x"], sayings_of("row k x", "column l x"))
CROSSWISE = sayings_of("not row a b", "not column a b") + [fact_of("row a x", "row b x"), fact_of("column a x", "column b x")]
TORN = [Book(ABC, [], 1, 2), Book(ABC, sayings_of("row a b", "column a b"))]


def alike_in(grid, known):
    """For each two known signs on which sides they are alike."""
    place = dict(zip(grid.signs, zip(grid.rows, grid.columns)))
    return [(place[one][0] == place[other][0], place[one][1] == place[other][1])
            for one, other in itertools.combinations(sorted(known), 2)]


def is_enough(kept, known):
    """Whether known signs are enough, told plainly."""
    if not all(are_enough(grid, known) for grid in kept):
        return False
    return not any(alike_in(one, known) == alike_in(other, known) for one, other in itertools.combinations(kept, 2))


def is_denial(kept, known, value):
    """Whether it is a right Unread or Twofold, told plainly."""
    if type(value) is Unread:
        if not is_grid_in(value.grid, kept) or value.side not in ("row", "column") or type(value.side) is not str:
            return False
        return (type(value.sign) is str and value.sign in value.grid.signs
                and word_of(value.grid, known, value.sign) not in ("both", value.side))
    if type(value) is not Twofold or not is_grid_in(value.one, kept) or not is_grid_in(value.other, kept):
        return False
    return str(value.one) != str(value.other) and alike_in(value.one, known) == alike_in(value.other, known)


def is_reading(book, known, value):
    """Whether any value is a reading tree, told plainly, row by row."""
    rows = tupled(value)
    if not is_row(rows) or not rows or not all(is_row(row) for row in rows):
        return False
    forks = [row for row in rows if is_fork(book, row)]
    named = [number for row in forks for number in row[3:]]
    if sorted(named) != list(range(1, len(rows))) or any(row[1] not in known or row[2] not in known for row in forks):
        return False
    if not all(number < min(row[3:]) for number, row in enumerate(rows) if is_fork(book, row)):
        return False
    return is_reading_below(book, known, [], rows, 0)


def is_reading_below(book, known, told, rows, at):
    row = rows[at]
    if is_fork(book, row):
        return all(is_reading_below(book, known, [*told, Saying(*row[:3], alike)], rows, row[4 - alike]) for alike in (True, False))
    waiting = [sign for sign in book.signs if sign not in known]
    if len(row) != 2 or not is_told(row[0], "read") or not is_row(row[1], len(waiting)):
        return False
    for sign, mark in zip(waiting, row[1]):
        if not is_row(mark, 5) or not is_told(mark[0], sign):
            return False
        for side, one, tree in (("row", *mark[1:3]), ("column", *mark[3:5])):
            if type(one) is not str or one not in known:
                return False
            if not is_any_tree(book, [*told, Saying(side, sign, one, False)], tree):
                return False
    return True


def crosswise_books():
    """Books by which x stands where the row of a meets the column of b, or the other way round: which, a b do not tell."""
    more = sayings_of("row a c", "not row b c", "row c x", "column b c")
    return [Book(["a", "b", "x"], CROSSWISE), *[Book(["a", "b", "c", "x"], [*CROSSWISE, saying]) for saying in more],
            Book(["a", "b", "c", "x"], CROSSWISE, 2, 3), Book(["a", "b", "c", "x"], CROSSWISE, 2, 2)]


def drawn_kept(seed, count, most=4, **more):
    """Books that some grid keeps, with all grids that do."""
    draw = random.Random(seed)
    found = []
    while len(found) < count:
        book = drawn_book(draw, EIGHT[:draw.randint(2, most)], **more)
        if grid_of(book):
            found.append((book, kept_grids(book)))
    return found


class EnoughSigns(Case):
    def check(self, book, kept, known):
        found = enough(book, known)
        self.assertEqual(found, enough(known=tuple(known), book=book))
        self.assertIs(shows_enough(book, known, found), True)
        right = is_enough(kept, known)
        self.assertEqual((bool(found), found.kind), (right, type(found).__name__.lower()))
        if right:
            self.assertTrue(type(found) is Enough and is_reading(book, known, found.rows), (str(book), known, found.rows))
        else:
            self.assertTrue(is_denial(kept, known, found))
        return type(found)

    def test_drawn(self):
        draw = random.Random(1)
        kinds = []
        for book, kept in drawn_kept(2, 250):
            for _ in range(3):
                known = draw.sample(book.signs, draw.randint(0, len(book.signs)))
                kinds.append(self.check(book, kept, known))
        self.assertTrue(all(kinds.count(kind) > 25 for kind in (Enough, Unread)))

    def test_twofold(self):
        """Known signs that read all signs of each grid, but do not tell which grid it is."""
        kinds = []
        for book in crosswise_books():
            for size in range(len(book.signs) + 1):
                for known in itertools.combinations(book.signs, size):
                    kinds.append(self.check(book, kept_grids(book), known))
        self.assertTrue(all(kinds.count(kind) > 4 for kind in (Enough, Unread, Twofold)), [kinds.count(kind) for kind in (Enough, Unread, Twofold)])
        self.assertIs(type(enough(crosswise_books()[0], ["a", "b"])), Twofold)

    def test_all_lots(self):
        for book, kept in [(FOUR, kept_grids(FOUR)), (BENT, kept_grids(BENT))]:
            for size in range(len(book.signs) + 1):
                for known in itertools.combinations(book.signs, size):
                    self.check(book, kept, known)

    def test_forks(self):
        """Where just four signs in two rows and two columns are known to be, three known ones are asked."""
        rows = enough(FOUR, ABC).rows
        self.assertGreater(len(rows), 1)
        self.assertEqual({row[0] for row in rows}, {"row", "column", "read"})
        self.assertEqual(enough(FOUR, ABCD).rows, (("read", ()),))

    def test_plain_books(self):
        """Enough for a plain book exactly if for its sure grid; the tree has one row."""
        draw = random.Random(3)
        kinds = []
        for book in [one for one in drawn_plain_books(4, 300, 8) if grid_of(one)]:
            known = draw.sample(book.signs, len(book.signs) - draw.choice((0, 1, 1, 2, 3)) % len(book.signs))
            found = enough(book, known)
            self.assertIs(bool(found), are_enough(sure_grid(book), known))
            self.assertIs(shows_enough(book, known, found), True)
            kinds.append(bool(found))
            if found:
                self.assertEqual(len(found.rows), 1)
                self.assertTrue(is_reading(book, known, found.rows))
            else:
                self.assertTrue(type(found) is Unread and is_denial([found.grid], known, found) and found.grid.keeps(book))
        both_sorts(self, kinds)

    def test_more_are_enough(self):
        draw = random.Random(5)
        for book, kept in drawn_kept(6, 60):
            for known in [lot for size in range(len(book.signs)) for lot in itertools.combinations(book.signs, size)]:
                if enough(book, known):
                    self.assertTrue(enough(book, [*known, draw.choice([sign for sign in book.signs if sign not in known])]))
                    self.assertTrue(all(are_enough(grid, known) for grid in kept))

    def test_120_grids(self):
        """Books that 120 grids keep are asked, those that 121 keep are not: whatever is known."""
        found = {120: Book.read("a b c d e : 4 2 : not row a c / not column c e or column c e"),
                 121: Book.read("a b c d e : 5 5 : not column b e or column d e or row b d / row a e or not row b e / row a b / not row c e"
                                " / not column c e or column d e")}
        self.assertEqual([many_grids(book) for book in found.values()], list(found))
        for known in ([], EIGHT[:2], EIGHT[:5]):
            self.refuses(TooMany("grids", 120), enough, found[121], known)
            self.assertIs(shows_enough(found[120], known, enough(found[120], known)), True)
        self.refuses(TooMany("grids", 120), fewest_enough, found[121])
        self.assertIs(shows_fewest_enough(found[120], fewest_enough(found[120])), True)

    def test_one_sign(self):
        for bounds in ((None, None), (1, 1), (8, None)):
            book = Book(["q"], [], *bounds)
            self.assertEqual(enough(book, ["q"]), Enough([["read", []]]))
            self.assertIs(type(enough(book, [])), Unread)
            found = fewest_enough(book)
            self.assertEqual((found.signs, found.rows, len(found.denials)), (("q",), (("read", ()),), 1))
            self.assertIs(shows_fewest_enough(book, found), True)


class FewestEnoughSigns(Case):
    def check(self, book, kept):
        found = fewest_enough(book)
        self.assertEqual((type(found), found.kind, bool(found)), (FewestEnough, "fewestenough", True))
        self.assertEqual(found, fewest_enough(book=book))
        self.assertIs(shows_fewest_enough(book, found), True)
        lots = [lot for size in range(len(book.signs) + 1) for lot in itertools.combinations(book.signs, size)]
        signs = next(lot for lot in lots if is_enough(kept, lot))
        self.assertEqual(found.signs, signs)
        self.assertTrue(is_reading(book, signs, found.rows))
        fewer = list(itertools.combinations(book.signs, len(signs) - 1))
        self.assertEqual(len(found.denials), len(fewer))
        for lot, denial in zip(fewer, found.denials):
            self.assertTrue(is_denial(kept, lot, denial))
        return len(signs)

    def test_drawn(self):
        found = [self.check(*one) for one in [*drawn_kept(8, 200), *[(book, kept_grids(book)) for book in crosswise_books()]]]
        self.assertTrue({1, 2, 3, 4} >= set(found) >= {2, 3, 4})

    def test_plain_books(self):
        many = set()
        for book in [one for one in drawn_plain_books(9, 60, 8) if grid_of(one)]:
            many.add(len(book.signs))
            sure = sure_grid(book)
            self.assertEqual(fewest_enough(book).signs, next(
                lot for size in range(9) for lot in itertools.combinations(book.signs, size) if are_enough(sure, lot)))
            self.assertIs(shows_fewest_enough(book, fewest_enough(book)), True)
        self.assertTrue({7, 8} <= many)
        eight = Book(EIGHT)
        self.assertEqual((fewest_enough(eight).signs, len(fewest_enough(eight).denials)), (tuple(EIGHT), 8))

    def test_any_fewest_lot(self):
        found = []
        for book, kept in drawn_kept(10, 120):
            right = fewest_enough(book)
            for lot in itertools.combinations(book.signs, len(right.signs)):
                paper = enough(book, lot)
                for rows in ((paper.rows,) if paper else (right.rows, ())):
                    value = FewestEnough(lot, rows, right.denials)
                    found.append(is_reading(book, lot, rows))
                    self.assertIs(shows_fewest_enough(book, value), found[-1])
                    self.assertIs(shows_fewest_enough(book, FewestEnough(lot[::-1], rows, right.denials)), found[-1] and len(lot) == 1)
        both_sorts(self, found)


class Bent(Case):
    def pool(self, draw, book):
        grids = draw.sample(all_grids(book.signs), min(5, len(all_grids(book.signs))))
        return [*ODD, *grids, *book.signs[:3], "column", "read", ("read", ()), (("place", "a", "b"),), ("apart", "row", "a", "b"), 3]

    def test_enough(self):
        draw = random.Random(11)
        found = []
        for book, kept in [*drawn_kept(12, 250), *[(book, kept_grids(book)) for book in crosswise_books()] * 3]:
            known = draw.choice([("a", "b"), draw.sample(book.signs, draw.randint(1, len(book.signs)))])
            paper, pool = enough(book, known), self.pool(draw, book)
            for _ in range(8):
                value = bent_paper(draw, paper, pool)
                found.append(is_reading(book, known, value.rows) if type(value) is Enough else is_denial(kept, known, value))
                self.assertIs(shows_enough(value=value, known=known, book=book), found[-1], (str(book), known, value.parts))
        both_sorts(self, found)

    def test_reading_trees(self):
        draw = random.Random(13)
        found = []
        for book, kept in drawn_kept(14, 2500, bounds=(2, 2, 3)):
            known = draw.sample(book.signs, len(book.signs) - 1)
            paper = enough(book, known)
            if not paper or len(paper.rows) < 3:
                continue
            pool = self.pool(draw, book)
            for _ in range(10):
                value = bent_paper(draw, paper, pool)
                found.append(is_reading(book, known, value.rows))
                self.assertIs(shows_enough(book, known, value), found[-1], (str(book), known, value.parts))
        self.assertGreater(len(found), 300)

    def test_fewest(self):
        draw = random.Random(15)
        found = []
        for book, kept in drawn_kept(16, 200):
            paper, pool = fewest_enough(book), self.pool(draw, book)
            for _ in range(8):
                value = bent_paper(draw, paper, pool)
                found.append(self.is_fewest(book, kept, value))
                self.assertIs(shows_fewest_enough(value=value, book=book), found[-1], (str(book), value.parts))
        both_sorts(self, found, 10)

    def is_fewest(self, book, kept, value):
        signs = value.signs
        if not is_row(signs) or not all(type(sign) is str and sign in book.signs for sign in signs) or list(signs) != sorted(set(signs)):
            return False
        fewer = list(itertools.combinations(book.signs, len(signs) - 1)) if signs else []
        return (is_reading(book, signs, value.rows) and is_row(value.denials, len(fewer))
                and all(is_denial(kept, lot, denial) for lot, denial in zip(fewer, value.denials)))

    def test_marks(self):
        marks = [["x", "k", [["apart", "row", "k", "x"]], "l", [["apart", "column", "l", "x"]]]]
        row, column = marks[0][2], marks[0][4]
        for told, known, is_right in (
                (marks, ["k", "l"], True), (marks, ["l", "k"], True), (marks, ["k", "l", "x"], False), (marks, ["k"], False),
                ([["x", "l", row, "k", column]], ["k", "l"], False), ([["x", "k", column, "l", row]], ["k", "l"], False),
                ([["k", "x", row, "l", column]], ["k", "l"], False), ([marks[0][:4]], ["k", "l"], False), ([], ["k", "l"], False),
                ([], ["k", "l", "x"], True), (marks * 2, ["k", "l"], False), ([[*marks[0], 0]], ["k", "l"], False),
                ([["x", "k", row, SAME, column]], ["k", "l"], False), ([[SAME, *marks[0][1:]]], ["k", "l"], False), (None, ["k", "l"], False)):
            self.assertIs(shows_enough(BENT, known, Enough([["read", told]])), is_right, (told, known))
        self.assertIs(shows_enough(BENT, ["k", "l"], Enough([[SAME, marks]])), False)
        self.assertIs(shows_enough(BENT, ["k", "l"], Enough([["read", marks, 0]])), False)

    def test_forks_of_known_signs(self):
        """A fork asks two known signs, also such as it is known of already; one that is not known it does not ask."""
        known = ["k", "l"]
        told = enough(BENT, known).rows[0][1]
        for fork, is_right in ((("row", "k", "l", 1, 2), True), (("row", "k", "l", 2, 1), True), (("row", "k", "x", 1, 2), False),
                               (("row", "l", "k", 1, 2), False), (("row", "k", "l", 1, 1), False), (("row", "k", "k", 1, 2), False)):
            self.assertIs(shows_enough(BENT, known, Enough([fork, ("read", told), ("read", told)])), is_right, fork)
        self.assertIs(shows_enough(BENT, ["k", "l", "x"], Enough([("row", "k", "x", 1, 2), ("read", ()), ("read", ())])), True)
        self.assertIs(shows_enough(BENT, known, Enough([("row", "k", "l", 1, 2), ("read", told)])), False)
        first = Book(["a", "k", "l"], sayings_of("row a k", "column a l"))
        told = enough(first, known).rows[0][1]
        for fork, is_right in ((("row", "k", "l", 1, 2), True), (("row", "a", "k", 1, 2), False), (("column", "a", "l", 1, 2), False)):
            self.assertIs(shows_enough(first, known, Enough([fork, ("read", told), ("read", told)])), is_right, fork)

    def test_denials(self):
        one, other = kept_grids(FOUR)[:2]
        wide = Grid(ABCD, [0, 1, 2, 3], [0, 0, 0, 0])
        for value, known, is_right in (
                (Unread(one, "row", "d"), ["a"], word_of(one, ["a"], "d") in ("none", "column")), (Unread(one, "row", "a"), ["a"], False),
                (Unread(wide, "row", "d"), ["a"], False), (Twofold(one, one), ["a"], False), (Twofold(one, wide), [], False),
                (Twofold(one, other), [], True), (Twofold(one, other), ["a"], True), (Unread(one, "row", "a"), [], True),
                (Unread(one, "row", "x"), [], False), (Unread(one, "side", "a"), [], False), (Unread(one, SAME, SAME), [], False),
                (Unread(str(one), "row", "a"), [], False), (Twofold(one, SAME), [], False)):
            self.assertIs(shows_enough(FOUR, known, value), is_right, (value.parts, known))

    def test_other_values(self):
        right = enough(FOUR, ABC)
        grid = kept_grids(FOUR)[0]
        for value in (None, SAME, right.rows, Paper("enough", right.rows), Denial("unread", grid, "row", "d"), "enough", Kept(grid),
                      fewest_enough(FOUR)):
            self.assertIs(shows_enough(FOUR, ABC, value), False)
        right = fewest_enough(FOUR)
        for value in (None, SAME, Paper("fewestenough", *right.parts), enough(FOUR, ABC), FewestEnough(None, (), ()), FewestEnough((), (), ())):
            self.assertIs(shows_fewest_enough(FOUR, value), False)

    def test_books_that_no_grid_keeps(self):
        """No grid is right of them; a reading tree can be: nothing is sought."""
        for book in TORN:
            tree = {side: tree_with(book, [Saying(side, "a", "b", False)]) for side in ("row", "column")}
            more = {side: tree_with(book, [Saying(side, "a", "c", False)]) for side in ("row", "column")}
            marks = [(sign, "a", trees["row"], "a", trees["column"]) for sign, trees in (("b", tree), ("c", more))]
            self.assertIs(shows_enough(book, ["a"], Enough([("read", marks)])), True)
            self.assertIs(shows_fewest_enough(book, FewestEnough(["a"], [("read", marks)], [Unread(all_grids(ABC)[0], "row", "a")])), False)
            for grid in all_grids(ABC):
                self.assertIs(shows_enough(book, [], Unread(grid, "row", "a")), False)


class Errors(Case):
    def test_order(self):
        right = {"book": FOUR, "known": ["a"]}
        large = (TooMany("signs", 6), {"book": Book(EIGHT[:7], [], 2, 3)})
        crowd = (TooMany("grids", 120), {"book": Book(EIGHT[:5], [], 4)})
        torn = Book(ABCD, [], 1, 2)
        for more, call in (((), enough), (("value",), shows_enough)):
            told = {**right, **{name: None for name in more}}
            faults = [(BadBook("book"), {"book": None}), (BadWord("known"), {"known": "a"})]
            self.refuses_in_order(call, told, faults)
            lasts = [large, crowd, (Impossible(grid_of(torn)), {"book": torn})]
            for known, error in ((["a", "x", "x"], NoSign("x")), (["a", "b", "a"], Twice("a"))):
                for last in lasts if call is enough else []:
                    self.refuses_in_order(call, told, [*faults[:1], (error, {"known": known}), last][:3])
                    self.refuses_in_order(call, told, [(error, {"known": known}), last])
            for value in NO_BOOKS:
                self.refuses(BadBook("book"), call, value, None, *more)
            for value in NO_LISTS:
                self.refuses(BadWord("known"), call, FOUR, value, *more)
            for known, value in ((["a", "x", "y"], "x"), (["a", "a", "x"], "x"), ([None], None), ([0], 0), ([["a"]], ["a"])):
                self.refuses(NoSign(value), call, FOUR, known, *more)
            self.refuses(Twice("b"), call, FOUR, ("a", "b", "b", "a"), *more)
        for value in NO_BOOKS:
            self.refuses(BadBook("book"), fewest_enough, value)
            self.refuses(BadBook("book"), shows_fewest_enough, value, None)

    def test_last(self):
        seven = Book(EIGHT[:7], [], 1, 1)
        for call, more in ((enough, ([],)), (fewest_enough, ())):
            self.refuses(TooMany("signs", 6), call, seven, *more)
            self.refuses(TooMany("signs", 6), call, Book(EIGHT, [fact_of("row a b", "row a c")]), *more)
            self.refuses(TooMany("grids", 120), call, Book(EIGHT[:6], [], 5), *more)
            for book in TORN:
                self.refuses(Impossible(grid_of(book)), call, book, *more)
            call(Book(EIGHT), *more)

    def test_checks_raise_no_more(self):
        """Papers of books of any size, kept or not, are read."""
        seven = Book(EIGHT[:7], [], 7, 7)
        grid = Grid(EIGHT[:7], range_of(7), [0] * 7)
        self.assertIs(shows_enough(seven, EIGHT[:6], Unread(grid, "row", "g")), True)
        self.assertIs(shows_enough(seven, EIGHT[:7], Enough([("read", ())])), True)
        self.assertIs(shows_enough(Book(EIGHT[:6], [], 5), EIGHT[:6], Enough([("read", ())])), True)
        self.assertIs(shows_fewest_enough(seven, FewestEnough(EIGHT[:7], [("read", ())], [
            Unread(grid, "row", sign) for sign in EIGHT[:7]][::-1])), True)
        for book in TORN:
            self.assertIs(shows_enough(book, [], None), False)
            self.assertIs(shows_fewest_enough(book, None), False)


class Largest(Case):
    def test_six_signs(self):
        """Books of six signs with up to 120 grids are answered soon."""
        draw = random.Random(17)
        many = 0
        while many < 15:
            book = drawn_book(draw, EIGHT[:6], 8, (None, 2, 3))
            if not book.is_plain and 60 <= many_grids(book) <= 120:
                many += 1
                self.assertIs(shows_fewest_enough(book, fewest_enough(book)), True)
                for size in (3, 4, 5, 6):
                    known = draw.sample(book.signs, size)
                    self.assertIs(shows_enough(book, known, enough(book, known)), True)


def range_of(many):
    return list(range(many))


if __name__ == "__main__":
    unittest.main()
