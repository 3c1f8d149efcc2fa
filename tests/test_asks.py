"""Asks, rows of answers, what settles a saying, and plans: beside a plain listing of all grids and a plain search of plans."""

import functools
import itertools
import random
import unittest

from bending import ODD, bent, bent_paper, both_sorts, is_any_tree, is_grid_in, is_lot_of, is_row, is_told
from mutesigns.answers import answer
from mutesigns.asks import LeastLot, Settles, Unsettled, answers_of, asks_of, least_lot, rows_had, settles
from mutesigns.asktrees import BestAsk, OneGrid, Plan, best_ask, grid_plan, saying_plan
from mutesigns.books import Book
from mutesigns.check_asks import shows_best_ask, shows_grid_plan, shows_least_lot, shows_saying_plan, shows_settles
from mutesigns.errors import BadBook, BadGrid, BadSaying, Impossible, NoSign, TooMany, Twice
from mutesigns.grids import Grid
from mutesigns.listing import many_grids
from mutesigns.papers import Denial, Paper
from mutesigns.possible import Kept, grid_of
from mutesigns.sayings import Saying
from oracles import drawn_book, drawn_sayings, kept_grids
from support import NO_LISTS, SAME, Case
from test_bearing import lots_in_order
from test_books import EIGHT
from test_facts import fact_of, sayings_of
from test_grids import all_grids
from test_listing import NO_BOOKS, NO_GRIDS
from test_plain import drawn_plain_books

ABC = ["a", "b", "c"]
ABCD = ["a", "b", "c", "d"]
TORN = [Book(ABC, [], 1, 2), Book(ABC, sayings_of("row a b", "column a b"))]
TURNS = Book.read("a b c d : - - : not column a c or not row a b or row c d / column a c or not row a b or not row c d"
                  " / not column b d or row a b or row c d / column b d or row a b or not row c d")
THREE, END = [("row", "a", "b"), ("column", "a", "c"), ("column", "b", "d")], Saying("row", "c", "d")
SIXTEEN = Book.read("a b c d e f : 2 3 : not column b c or not column b d or row b c or row b e / not row d f"
                    " / not column a b or not column c d / column b c or column d f")
SEVENTEEN = Book.read("a b c d e : - 4 : column a d or not row a d / not column d e or row a b / row b d / column b c"
                      " / not column c e / not row c e or row d e")
MOST = Book.read("a b c d e f : 2 4 : not column b d or column b f or column c e or not row a f")
MORE = Book.read("a b c d e f : 5 - : column a e or not row b e or not row b f / row d e / column e f or not row b d or row d e"
                 " / row e f / column a e or column a f or column b f or not row b e")
NO_ASKS = NO_LISTS + [[None], ["rowab"], [("row", "a")], [("row", "a", "b", True)], [("row", "b", "a")], [("row", "a", "a")],
                      [("side", "a", "b")], [("row", "a", 1)], [("row", 1, 2)], [("row", "A", "b")], [("row", "a", "b-")], [Saying("row", "a", "b")],
                      [("row", "a", "b"), None], [SAME], [(SAME, "a", "b")], [("row", SAME, "b")], [("row", "a", SAME)], [{"row": 1, "a": 2, "b": 3}],
                      [["row", "a", ["b"]]], [(True, "a", "b")], [["row", "a", ""]]]
WITH_SAYING = (settles, least_lot, saying_plan)
CHECKS_OF_SAYING = (shows_settles, shows_least_lot, shows_saying_plan)


def plain_asks(signs):
    return [(side, one, other) for side in ("column", "row") for one, other in itertools.combinations(sorted(signs), 2)]


def row_by(grid, asks):
    """The answers of a grid, told plainly."""
    place = dict(zip(grid.signs, zip(grid.columns, grid.rows)))
    return tuple(place[one][side == "row"] == place[other][side == "row"] for side, one, other in asks)


def are_settled(kept, saying, asks):
    """Whether any two grids that give one row agree at the saying."""
    return not any(row_by(one, asks) == row_by(other, asks) and one.holds(saying) != other.holds(saying)
                   for one, other in itertools.combinations(kept, 2))


def all_rows(many):
    return list(itertools.product((False, True), repeat=many))


def said(asks, row):
    return [Saying(*ask, alike) for ask, alike in zip(asks, row)]


def are_rows(book, saying, asks, rows):
    """Whether these are right rows of a Settles, told plainly."""
    told = all_rows(len(asks))
    return is_row(rows, len(told)) and all(
        is_row(shown, 2) and type(shown[0]) is bool
        and is_any_tree(book, [*said(asks, row), saying.contrary() if shown[0] else saying], shown[1])
        for row, shown in zip(told, rows))


def is_pair(kept, saying, asks, pair):
    """Whether it is a pair of grids as of an Unsettled, told plainly."""
    return (is_row(pair, 2) and all(is_grid_in(grid, kept) for grid in pair) and row_by(pair[0], asks) == row_by(pair[1], asks)
            and pair[0].holds(saying) and not pair[1].holds(saying))


def is_settles(book, kept, saying, asks, value):
    if type(value) is Settles:
        return are_rows(book, saying, asks, value.rows)
    return type(value) is Unsettled and is_pair(kept, saying, asks, value.parts)


def is_least_lot(book, kept, saying, asks, value):
    if type(value) is Unsettled:
        return is_pair(kept, saying, asks, value.parts)
    if type(value) is not LeastLot or not is_lot_of(value.numbers, len(asks)):
        return False
    fewer = list(itertools.combinations(asks, len(value.numbers) - 1)) if value.numbers else []
    return (are_rows(book, saying, [asks[at] for at in value.numbers], value.rows) and is_row(value.pairs, len(fewer))
            and all(is_pair(kept, saying, lot, pair) for lot, pair in zip(fewer, value.pairs)))


def drawn_asks(draw, signs, most=6):
    """Some asks of these signs, in any order, lists or tuples."""
    told = plain_asks(signs)
    return [draw.choice((list, tuple))(ask) for ask in draw.sample(told, draw.randint(0, min(most, len(told))))]


def drawn_kept(seed, count, least=2, most=4, **more):
    """Books that some grid keeps, and these grids."""
    draw = random.Random(seed)
    found = []
    while len(found) < count:
        book = drawn_book(draw, EIGHT[:draw.randint(least, most)], **more)
        if grid_of(book):
            found.append((book, kept_grids(book)))
    return found


def drawn_asked(seed, count, **more):
    """Such books with a saying and asks: by some the saying is settled, by others not."""
    draw = random.Random(seed)
    return [(book, kept, drawn_sayings(draw, book.signs, 1)[0], drawn_asks(draw, book.signs)) for book, kept in drawn_kept(seed, count, **more)]


class Rows(Case):
    def test_asks_of(self):
        for many in range(1, 9):
            book = Book(EIGHT[:many][::-1])
            self.assertEqual((asks_of(book), asks_of(book=book)), (tuple(plain_asks(EIGHT[:many])),) * 2)
            self.assertEqual(list(asks_of(book)), sorted(asks_of(book)))
        for book in (*TORN, Book(EIGHT, [], 1, 1), Book(EIGHT[:7], [], 7)):
            self.assertEqual(asks_of(book), tuple(plain_asks(book.signs)))

    def test_answers_of(self):
        draw = random.Random(1)
        for grid in draw.sample(all_grids(ABCD), 40) + list(all_grids(["a", "b"])):
            asks = drawn_asks(draw, grid.signs, 12)
            self.assertEqual((answers_of(grid, asks), answers_of(asks=tuple(asks), grid=grid)), (row_by(grid, asks),) * 2)
        self.assertEqual(answers_of(all_grids(["q"])[0], []), ())

    def test_rows_had(self):
        draw = random.Random(2)
        for book, kept in drawn_kept(3, 150):
            asks = drawn_asks(draw, book.signs)
            rows = [row_by(grid, asks) for grid in kept]
            found = rows_had(book, asks)
            self.assertEqual(found, tuple((row, rows.count(row)) for row in sorted(set(rows))))
            self.assertEqual(found, rows_had(asks=asks, book=book))
            self.assertTrue(all(type(answer) is bool for row, many in found for answer in row))

    def test_400_grids(self):
        self.assertEqual((many_grids(MOST), many_grids(MORE)), (400, 401))
        self.assertEqual(sum(many for row, many in rows_had(MOST, plain_asks(ABC)[:6])), 400)
        self.refuses(TooMany("grids", 400), rows_had, MORE, [])
        self.assertEqual(sum(many for _, yes, many in best_ask(MOST).table[:1]) + best_ask(MOST).table[0][1], 400)
        self.refuses(TooMany("grids", 400), best_ask, MORE)
        self.refuses(TooMany("grids", 400), shows_best_ask, MORE, None)
        for call, more in ((saying_plan, ()), (shows_saying_plan, (None,))):
            call(MOST, END, THREE, *more)
            self.refuses(TooMany("grids", 400), call, MORE, END, THREE, *more)
        for call in (settles, least_lot):
            call(MORE, END, THREE)


class Settling(Case):
    def check(self, book, kept, saying, asks):
        right = are_settled(kept, saying, asks)
        found = settles(book, saying, asks)
        self.assertEqual(found, settles(asks=tuple(asks), saying=saying, book=book))
        self.assertIs(shows_settles(book, saying, asks, found), True)
        self.assertIs(type(found), Settles if right else Unsettled)
        self.assertEqual((found.kind, bool(found)), ("settles", True) if right else ("unsettled", False))
        self.assertTrue(is_settles(book, kept, saying, asks, found))
        return right

    def check_least(self, book, kept, saying, asks):
        found = least_lot(book, saying, asks)
        self.assertEqual(found, least_lot(asks=tuple(asks), saying=saying, book=book))
        self.assertIs(shows_least_lot(book, saying, asks, found), True)
        self.assertTrue(is_least_lot(book, kept, saying, asks, found))
        if not are_settled(kept, saying, asks):
            self.assertEqual((type(found), found.kind, bool(found)), (Unsettled, "unsettled", False))
            return None
        self.assertEqual((type(found), found.kind, bool(found)), (LeastLot, "leastlot", True))
        self.assertEqual(found.numbers, next(lot for lot in lots_in_order(len(asks)) if are_settled(kept, saying, [asks[at] for at in lot])))
        return len(found.numbers)

    def test_drawn(self):
        found = [(self.check(*one), self.check_least(*one)) for one in drawn_asked(4, 300)]
        both_sorts(self, [one for one, _ in found])
        self.assertTrue({0, 1, 2, None} <= {many for _, many in found})

    def test_without_asks(self):
        """Asks that are none settle what is sure or never."""
        for book, kept in drawn_kept(5, 60):
            for saying in drawn_sayings(random.Random(1), book.signs, 2):
                kind = answer(book, saying).kind
                self.assertIs(bool(settles(book, saying, [])), kind != "open")
                if kind != "open":
                    self.assertEqual([row[0] for row in settles(book, saying, []).rows], [kind == "sure"])
                    self.assertEqual((least_lot(book, saying, plain_asks(book.signs)[:6]).numbers, least_lot(book, saying, []).pairs), ((), ()))

    def test_turns(self):
        kept = kept_grids(TURNS)
        self.assertEqual(self.check_least(TURNS, kept, END, THREE), 3)
        self.assertEqual(len(least_lot(TURNS, END, THREE).rows), 8)
        self.assertTrue(self.check(TURNS, kept, END, [*THREE, ("row", "a", "c"), ("row", "b", "d"), ("column", "a", "d")]))

    def test_six_asks(self):
        """64 rows of answers, most of them not had."""
        for book, kept in drawn_kept(6, 25, 4, 4):
            saying, asks = drawn_sayings(random.Random(2), book.signs, 1)[0], plain_asks(book.signs)[::2]
            if self.check(book, kept, saying, asks):
                self.assertEqual(len(settles(book, saying, asks).rows), 64)
            self.check_least(book, kept, saying, asks)

    def test_large_plain_books(self):
        draw = random.Random(7)
        kinds = []
        for book in [one for one in drawn_plain_books(8, 60, 8) if grid_of(one) and len(one.signs) > 5]:
            saying, asks = drawn_sayings(draw, book.signs, 1)[0], drawn_asks(draw, book.signs)
            for call, shows in ((settles, shows_settles), (least_lot, shows_least_lot)):
                found = call(book, saying, asks)
                self.assertIs(shows(book, saying, asks, found), True)
                kinds.append(type(found))
        self.assertEqual(set(kinds), {Settles, LeastLot, Unsettled})

    def test_largest(self):
        """A book that 15125 grids keep, six asks: answered soon."""
        six = EIGHT[:6]
        book = Book(six, [], 6)
        self.assertEqual(many_grids(book), 15125)
        chain = [("row", one, other) for one, other in zip(six, six[1:])]
        for asks, saying, right in ((chain + [("row", "a", "c")], Saying("row", "b", "c"), (1,)), (chain, Saying("row", "a", "f"), None),
                                    (plain_asks(six)[:6], Saying("row", "a", "b"), None), (chain[:2] + [("column", "a", "c")], Saying("row", "a", "c"), None),
                                    ([("column", "a", "b"), ("row", "a", "b"), ("row", "c", "d")], Saying("column", "a", "b", False), (0,))):
            for call, shows in ((settles, shows_settles), (least_lot, shows_least_lot)):
                found = call(book, saying, asks)
                self.assertIs(bool(found), right is not None)
                self.assertIs(shows(book, saying, asks, found), True)
            if right:
                self.assertEqual(found.numbers, right)

    def test_bent_settles(self):
        self.bend(shows_settles, is_settles, [(*one, settles(one[0], *one[2:])) for one in drawn_asked(9, 250)], 10)

    def test_bent_least_lots(self):
        self.bend(shows_least_lot, is_least_lot, [(*one, least_lot(one[0], *one[2:])) for one in drawn_asked(11, 250)], 12)

    def bend(self, shows, is_right, papers, seed):
        draw = random.Random(seed)
        found = []
        for book, kept, saying, asks, paper in papers:
            pool = [*ODD, *draw.sample(kept, min(3, len(kept))), *draw.sample(all_grids(book.signs), 2), (("place", "a", "b"),), (0, 1)]
            for _ in range(8):
                value = bent_paper(draw, paper, pool)
                found.append(is_right(book, kept, saying, asks, value))
                self.assertIs(shows(value=value, asks=asks, saying=saying, book=book), found[-1], (str(book), str(saying), asks, value.parts))
        both_sorts(self, found)

    def test_any_lot_of_as_many(self):
        found = []
        for book, kept, saying, asks in drawn_asked(13, 200):
            right = least_lot(book, saying, asks)
            if not right:
                continue
            for lot in itertools.combinations(range(len(asks)), len(right.numbers)):
                told = settles(book, saying, [asks[at] for at in lot])
                value = LeastLot(lot, told.rows if told else right.rows, right.pairs)
                found.append(is_least_lot(book, kept, saying, asks, value))
                self.assertIs(shows_least_lot(book, saying, asks, value), found[-1])
            more = settles(book, saying, asks)
            self.assertIs(shows_least_lot(book, saying, asks, LeastLot(range(len(asks)), more.rows, right.pairs)), False)
        both_sorts(self, found)

    def test_truths(self):
        """A number stands for no truth; a row that is not had can be told either way."""
        book = Book(["a", "b"], sayings_of("row a b"))
        apart, place = [["apart", "row", "a", "b"]], [["place", "a", "b"]]
        for rows, is_right in (([(True, apart)], True), ([(1, apart)], False), ([(False, apart)], False), ([("True", apart)], False), ([(SAME, apart)], False)):
            self.assertIs(shows_settles(book, Saying("row", "a", "b"), [], Settles(rows)), is_right)
        column = [("column", "a", "b")]
        for rows, is_right in (([(False, place), (False, place)], True), ([(False, place), (True, place)], True), ([(True, place), (True, place)], False),
                               ([(False, place)], False), ([(False, place)] * 3, False)):
            self.assertIs(shows_settles(book, Saying("column", "a", "b"), column, Settles(rows)), is_right or False)

    def test_other_values(self):
        kept = kept_grids(TURNS)
        right = settles(TURNS, END, THREE)
        for shows in CHECKS_OF_SAYING:
            for value in (None, SAME, right.parts, Paper("settles", *right.parts), Denial("unsettled", kept[0], kept[1]), Kept(kept[0]), "settles",
                          answer(TURNS, END), best_ask(TURNS)):
                self.assertIs(shows(TURNS, END, THREE, value), False)
        self.assertIs(shows_least_lot(TURNS, END, THREE, right), False)
        self.assertIs(shows_settles(TURNS, END, THREE, least_lot(TURNS, END, THREE)), False)

    def test_no_grid(self):
        for book in TORN:
            saying = Saying("row", "a", "c")
            trees = {alike: grid_of(book.with_fact(Saying("row", "a", "c", alike))).tree for alike in (True, False)}
            for holds in (True, False):
                self.assertIs(shows_settles(book, saying, [], Settles([(holds, trees[not holds])])), True)
                self.assertIs(shows_least_lot(book, saying, [], LeastLot([], [(holds, trees[not holds])], [])), True)
            for grid in all_grids(ABC):
                self.assertIs(shows_settles(book, saying, [], Unsettled(grid, grid)), False)


def least_depth(kept, asks, leaf):
    """The least depth of a plan, by a plain search of all plans; None if there is none."""
    rows = [row_by(grid, asks) for grid in kept]

    @functools.lru_cache(maxsize=None)
    def depth_of(numbers):
        if len({leaf(kept[at]) for at in numbers}) == 1:
            return 0
        depths = []
        for ask in range(len(asks)):
            yes = tuple(at for at in numbers if rows[at][ask])
            no = tuple(at for at in numbers if not rows[at][ask])
            if yes and no:
                below = (depth_of(yes), depth_of(no))
                if None not in below:
                    depths.append(1 + max(below))
        return min(depths, default=None)

    return depth_of(tuple(range(len(kept))))


def depth_of(kept, asks, leaf, tree):
    """The depth of a plan for these grids, None for what is none, told plainly."""
    if not is_row(tree):
        return 0 if kept and all(is_told(leaf(grid), tree) if type(tree) is not Grid else str(leaf(grid)) == str(tree) for grid in kept) else None
    if len(tree) != 3 or not any(is_told(tree[0], ask) for ask in asks):
        return None
    yes, no = ([grid for grid in kept if row_by(grid, [tree[0]]) == (alike,)] for alike in (True, False))
    depths = [depth_of(part, asks, leaf, below) for part, below in ((yes, tree[1]), (no, tree[2]))]
    return None if None in depths else 1 + max(depths)


def is_plan(kept, asks, leaf, value):
    """Whether it is a right Plan, told plainly."""
    if type(value) is not Plan or not kept or type(value.depth) is not int:
        return False
    return value.depth == depth_of(kept, asks, leaf, value.tree) == least_depth(kept, asks, leaf)


def itself(grid):
    return str(grid)


class Plans(Case):
    def test_best_ask(self):
        kinds = []
        for book, kept in drawn_kept(15, 250):
            found = best_ask(book)
            kinds.append(type(found))
            self.assertEqual(found, best_ask(book=book))
            self.assertIs(shows_best_ask(book, found), True)
            if len(kept) == 1:
                self.assertEqual((type(found), found.kind, bool(found), found.grid), (OneGrid, "onegrid", True, kept[0]))
                continue
            table = [(ask, sum(row_by(grid, [ask])[0] for grid in kept), sum(not row_by(grid, [ask])[0] for grid in kept))
                     for ask in plain_asks(book.signs)]
            self.assertEqual((type(found), found.kind, bool(found), found.table), (BestAsk, "bestask", True, tuple(table)))
            self.assertEqual(found.ask, min(table, key=lambda row: max(row[1:]))[0])
        self.assertTrue(kinds.count(OneGrid) > 5 and kinds.count(BestAsk) > 5)
        self.assertEqual(best_ask(Book(["q"])), OneGrid(Grid(["q"], [0], [0])))

    def test_grid_plans(self):
        depths = set()
        for book, kept in drawn_kept(16, 300):
            if len(kept) > 16:
                self.refuses(TooMany("grids", 16), grid_plan, book)
                self.refuses(TooMany("grids", 16), shows_grid_plan, book, None)
                continue
            found = grid_plan(book)
            depths.add(found.depth)
            self.assertEqual((type(found), found.kind, bool(found)), (Plan, "plan", True))
            self.assertEqual(found, grid_plan(book=book))
            self.assertTrue(is_plan(kept, plain_asks(book.signs), itself, self.by_texts(found)))
            self.assertIs(shows_grid_plan(book, found), True)
        self.assertTrue({0, 1, 2, 3, 4} <= depths)

    def by_texts(self, plan):
        """The plan with the texts of the grids as its leaves."""
        def told(tree):
            return (tree[0], told(tree[1]), told(tree[2])) if is_row(tree) else str(tree)
        return Plan(plan.depth, told(plan.tree))

    def test_sixteen_and_seventeen(self):
        self.assertEqual((many_grids(SIXTEEN), many_grids(SEVENTEEN)), (16, 17))
        found = grid_plan(SIXTEEN)
        self.assertIs(shows_grid_plan(SIXTEEN, found), True)
        self.assertEqual(found.depth, least_depth(kept_grids(SIXTEEN), plain_asks(SIXTEEN.signs), itself))
        self.refuses(TooMany("grids", 16), grid_plan, SEVENTEEN)
        self.refuses(TooMany("grids", 16), shows_grid_plan, SEVENTEEN, found)

    def test_best_ask_need_not_begin(self):
        """The depth of a plan is the least of all, whether or not the best ask begins it."""
        for book, kept in drawn_kept(17, 40, 3, 4, most_facts=6):
            if 2 < len(kept) <= 16:
                self.assertEqual(grid_plan(book).depth, least_depth(kept, plain_asks(book.signs), itself))
                self.assertLessEqual(len(kept), 2 ** grid_plan(book).depth)

    def test_saying_plans(self):
        found = []
        for book, kept, saying, asks in drawn_asked(18, 400):
            plan = saying_plan(book, saying, asks)
            self.assertEqual(plan, saying_plan(asks=tuple(asks), saying=saying, book=book))
            self.assertIs(shows_saying_plan(book, saying, asks, plan), True)
            if are_settled(kept, saying, asks):
                self.assertTrue(is_plan(kept, asks, lambda grid: grid.holds(saying), plan))
                self.assertLessEqual(plan.depth, len(least_lot(book, saying, asks).numbers))
                found.append(plan.depth)
            else:
                self.assertTrue(type(plan) is Unsettled and is_pair(kept, saying, asks, plan.parts))
                found.append(None)
        self.assertTrue({0, 1, 2, None} <= set(found))
        self.assertEqual(saying_plan(TURNS, END, THREE).depth, 2)

    def test_bent_best_asks(self):
        draw = random.Random(19)
        found = []
        for book, kept in drawn_kept(20, 200):
            paper = best_ask(book)
            for _ in range(6):
                value = bent_paper(draw, paper, [*ODD, *draw.sample(all_grids(book.signs), 2), ("row", "a", "b")])
                right = is_grid_in(value.grid, kept) if type(value) is OneGrid else is_told(value.parts, paper.parts)
                found.append(right)
                self.assertIs(shows_best_ask(value=value, book=book), right, (str(book), value.parts))
        both_sorts(self, found, 10)

    def test_best_asks_one_by_one(self):
        two = Book(["a", "b"])
        table = [(("column", "a", "b"), 1, 2), (("row", "a", "b"), 1, 2)]
        for ask, told, is_right in ((table[0][0], table, True), (list(table[0][0]), [list(row) for row in table], True), (table[1][0], table, False),
                                    (table[0][0], table[::-1], False), (table[0][0], [(table[0][0], True, 2), table[1]], False), (table[0][0], table[:1], False),
                                    (table[0][0], [(table[0][0], 2, 1), table[1]], False), (table[0][0], [(table[0][0], 1.0, 2), table[1]], False)):
            self.assertIs(shows_best_ask(two, BestAsk(ask, told)), is_right)
        grid = kept_grids(two)[0]
        for value in (None, SAME, OneGrid(grid), Kept(grid), Paper("bestask", *best_ask(two).parts), grid_plan(two), Plan(0, grid)):
            self.assertIs(shows_best_ask(two, value), False)
        one = two.with_fact(Saying("row", "a", "b"))
        grid = kept_grids(one)[0]
        self.assertIs(shows_best_ask(one, OneGrid(grid)), True)
        for value in (OneGrid(grid.crossed()), OneGrid(str(grid)), OneGrid(SAME), BestAsk(("column", "a", "b"), [(("column", "a", "b"), 0, 1), (("row", "a", "b"), 1, 0)])):
            self.assertIs(shows_best_ask(one, value), False)

    def test_bent_grid_plans(self):
        draw = random.Random(21)
        found = []
        for book, kept in drawn_kept(22, 300):
            if len(kept) <= 16:
                paper = grid_plan(book)
                pool = [*ODD, *draw.sample(kept, min(2, len(kept))), *draw.sample(all_grids(book.signs), 1), *plain_asks(book.signs)[:3]]
                for _ in range(8):
                    value = bent_paper(draw, paper, pool)
                    told = self.by_texts(value) if not self.has_text(value.tree) else Plan(None, None)
                    found.append(is_plan(kept, plain_asks(book.signs), itself, told))
                    self.assertIs(shows_grid_plan(value=value, book=book), found[-1], (str(book), value.parts))
        both_sorts(self, found)

    def has_text(self, tree):
        """Whether a leaf of what should be a plan of grids is no grid, or a triple none."""
        if is_row(tree):
            return len(tree) != 3 or self.has_text(tree[1]) or self.has_text(tree[2])
        return type(tree) is not Grid

    def test_bent_saying_plans(self):
        draw = random.Random(23)
        found = []
        for book, kept, saying, asks in drawn_asked(24, 300):
            paper = saying_plan(book, saying, asks)
            pool = [*ODD, True, False, 1, 0, *draw.sample(kept, min(2, len(kept))), *asks[:2], *plain_asks(book.signs)[:2]]
            for _ in range(8):
                value = bent_paper(draw, paper, pool)
                if type(value) is Plan:
                    right = is_plan(kept, asks, lambda grid: grid.holds(saying), value)
                else:
                    right = is_pair(kept, saying, asks, value.parts)
                found.append(right)
                self.assertIs(shows_saying_plan(value=value, asks=asks, saying=saying, book=book), right, (str(book), str(saying), asks, value.parts))
        both_sorts(self, found)

    def test_plans_one_by_one(self):
        """A plan one deeper, a leaf exchanged, a number for a truth, an ask that parts nothing, or that was not passed."""
        book, saying = Book(["a", "b"]), Saying("row", "a", "b", False)
        row, column = ("row", "a", "b"), ("column", "a", "b")
        for depth, tree, asks, is_right in (
                (1, (row, False, True), [row], True), (1, [list(row), False, True], [column, row], True), (1, (row, True, False), [row], False),
                (1, (row, 0, 1), [row], False), (2, (row, False, True), [row], False), (True, (row, False, True), [row], False), (1.0, (row, False, True), [row], False),
                (2, (column, True, (row, False, True)), [row, column], False), (1, (row, False, True), [column], False), (0, False, [row], False),
                (2, (row, (row, False, True), True), [row], False), (2, (row, (column, True, False), True), [row, column], False),
                (1, (row, False), [row], False), (1, (row, False, True, True), [row], False), (1, (SAME, False, True), [row], False),
                (1, (row, False, SAME), [row], False), (1, None, [row], False)):
            self.assertIs(shows_saying_plan(book, saying, asks, Plan(depth, tree)), is_right, (depth, tree))
        one, two, three = kept_grids(book)
        right = grid_plan(book)
        self.assertIs(shows_grid_plan(book, right), True)
        self.assertEqual({str(grid) for grid in (one, two, three)}, {str(grid) for grid in self.leaves(right.tree)})
        for tree in ((right.tree[0], right.tree[2], right.tree[1]), right.tree[1], (right.tree[0], one, one), (right.tree[0], right.tree, right.tree), one, ()):
            self.assertIs(shows_grid_plan(book, Plan(2, tree)), False)

    def test_some_each(self):
        """An ask that all grids at its place answer alike is none of a plan, also where this makes the plan no deeper."""
        two = Book(["a", "b"])
        kept = kept_grids(two)
        row, column = ("row", "a", "b"), ("column", "a", "b")
        one, other = (next(grid for grid in kept if row_by(grid, [ask]) == (True,)) for ask in (column, row))
        free = next(grid for grid in kept if row_by(grid, [row, column]) == (False, False))
        self.assertIs(shows_grid_plan(two, Plan(2, (column, one, (row, other, free)))), True)
        for leaf in (*kept, None):
            self.assertIs(shows_grid_plan(two, Plan(2, (column, (row, leaf, one), (row, other, free)))), False)
            self.assertIs(shows_grid_plan(two, Plan(2, (column, (column, one, leaf), (row, other, free)))), False)
        holds, asks = Saying("row", "a", "b", False), [row, column]
        three = Book(["a", "b", "c"], sayings_of("row a b", "row b c"))
        for leaf in (True, False, None):
            for tree in ((row, (row, False, leaf), True), (row, False, (row, leaf, True)), (row, (column, leaf, False), True)):
                self.assertIs(shows_saying_plan(two, holds, asks, Plan(2, tree)), False)
            self.assertIs(shows_saying_plan(three, holds, asks, Plan(1, (column, leaf, False))), False)

    def leaves(self, tree):
        return [*self.leaves(tree[1]), *self.leaves(tree[2])] if is_row(tree) else [tree]

    def test_no_grid(self):
        """Of a book that no grid keeps no BestAsk, OneGrid, Plan is right."""
        for book in TORN:
            for grid in all_grids(ABC):
                self.assertIs(shows_best_ask(book, OneGrid(grid)), False)
                self.assertIs(shows_grid_plan(book, Plan(0, grid)), False)
            table = [(ask, 0, 0) for ask in plain_asks(ABC)]
            self.assertIs(shows_best_ask(book, BestAsk(table[0][0], table)), False)
            for leaf in (True, False, None, SAME):
                self.assertIs(shows_saying_plan(book, Saying("row", "a", "b"), [("row", "a", "b")], Plan(0, leaf)), False)
                self.assertIs(shows_grid_plan(book, Plan(0, leaf)), False)

    def test_other_values(self):
        book = Book(["a", "b"])
        for value in (None, SAME, grid_plan(book).parts, Paper("plan", *grid_plan(book).parts), best_ask(book), Plan(SAME, SAME)):
            self.assertIs(shows_grid_plan(book, value), False)
        self.assertIs(shows_grid_plan(TURNS.with_fact(Saying("row", "a", "b")).with_fact(Saying("row", "b", "c")), saying_plan(TURNS, END, THREE)), False)

    def test_spoiled_deep(self):
        draw = random.Random(25)
        paper = grid_plan(SIXTEEN)
        for _ in range(150):
            value = Plan(paper.depth, bent(draw, paper.tree, [*ODD, *kept_grids(SIXTEEN)[:2]]))
            right = not self.has_text(value.tree) and is_plan(kept_grids(SIXTEEN), plain_asks(SIXTEEN.signs), itself, self.by_texts(value))
            self.assertIs(shows_grid_plan(SIXTEEN, value), right)


class Errors(Case):
    def test_asks(self):
        grid = Grid(ABC, [0, 0, 1], [0, 1, 1])
        right = {"grid": grid, "asks": [("row", "a", "b")]}
        self.refuses_in_order(answers_of, right, [(BadGrid("grid"), {"grid": None}), (BadSaying("asks"), {"asks": None})])
        for value in NO_GRIDS:
            self.refuses(BadGrid("grid"), answers_of, value, None)
        calls = [(answers_of, (grid,), ()), (rows_had, (Book(ABC),), ())]
        calls += [(call, (Book(ABC), Saying("row", "a", "b")), ()) for call in WITH_SAYING]
        calls += [(call, (Book(ABC), Saying("row", "a", "b")), (None,)) for call in CHECKS_OF_SAYING]
        first, again = ["row", "a", "b"], ("row", "a", "b")
        for call, ahead, behind in calls:
            for value in NO_ASKS:
                self.refuses(BadSaying("asks"), call, *ahead, value, *behind)
            for asks, sign in (([again, ("row", "x", "y")], "x"), ([again, again, ("column", "c", "d")], "d"), ([("row", "p", "q"), ("row", "m", "n")], "p")):
                self.refuses(NoSign(sign), call, *ahead, asks, *behind)
            self.refuses(BadSaying("asks"), call, *ahead, [("row", "p", "q"), None], *behind)
            self.refuses(Twice(first), call, *ahead, [again, ("row", "b", "c"), first, again], *behind)
            self.refuses(Twice(again), call, *ahead, (first, ("row", "b", "c"), again, first), *behind)
            seven = [*plain_asks(ABC), ("row", "b", "d")]
            if call is not answers_of:
                self.refuses(TooMany("asks", 6), call, Book(ABCD), *ahead[1:], seven, *behind)
                call(Book(ABCD), *ahead[1:], seven[:6], *behind)
        self.assertEqual(len(answers_of(Grid(ABCD, [0, 0, 1, 1], [0, 1, 0, 1]), plain_asks(ABCD))), 12)

    def test_order(self):
        right = {"book": Book(ABCD), "saying": Saying("row", "a", "b"), "asks": [("row", "a", "c")]}
        for call in (*WITH_SAYING, *CHECKS_OF_SAYING):
            told = {**right, **({"value": None} if call in CHECKS_OF_SAYING else {})}
            ahead = [(BadBook("book"), {"book": None}), (BadSaying("saying"), {"saying": "row a b"})]
            sign = (NoSign("y"), {"saying": Saying("row", "z", "y")})
            for last in ((BadSaying("asks"), {"asks": [None]}), (NoSign("x"), {"asks": [("row", "x", "z")]}),
                         (Twice(("row", "a", "c")), {"asks": [("row", "a", "c")] * 2}), (TooMany("asks", 6), {"asks": plain_asks(ABCD)[:7]})):
                self.refuses_in_order(call, told, [*ahead, last])
                self.refuses_in_order(call, told, [ahead[0], sign, last])
            for value in NO_BOOKS:
                self.refuses(BadBook("book"), call, **{**told, "book": value})
            for value in (None, 0, "row a b", fact_of("row a b"), [Saying("row", "a", "b")], SAME, ("row", "a", "b")):
                self.refuses(BadSaying("saying"), call, **{**told, "saying": value})
            self.refuses(NoSign("y"), call, **{**told, "saying": Saying("row", "z", "y")})
        faults = [(BadBook("book"), {"book": None}), (BadSaying("asks"), {"asks": [None]})]
        self.refuses_in_order(rows_had, {"book": Book(ABCD), "asks": []}, faults)

    def test_last(self):
        """TooMany of asks, then of signs, then of grids, then Impossible."""
        saying, seven = Saying("row", "a", "b"), plain_asks(ABCD)[:7]
        large = [Book(EIGHT[:7], [], 7), Book(EIGHT[:7], [], 1, 1)]
        for book in (*large, MORE, Book(ABCD, [], 1, 2)):
            for call in WITH_SAYING:
                self.refuses(TooMany("asks", 6), call, book, saying, seven)
            self.refuses(TooMany("asks", 6), rows_had, book, seven)
        for book in large:
            for call in WITH_SAYING:
                self.refuses(TooMany("signs", 6), call, book, saying, [])
            for call in (best_ask, grid_plan):
                self.refuses(TooMany("signs", 6), call, book)
            self.refuses(TooMany("signs", 6), rows_had, book, [])
            for shows in (shows_best_ask, shows_grid_plan):
                self.refuses(TooMany("signs", 6), shows, book, None)
            self.refuses(TooMany("signs", 6), shows_saying_plan, book, saying, [], None)
            for shows in (shows_settles, shows_least_lot):
                self.assertIs(shows(book, saying, [], None), False)
        plain = Book(EIGHT)
        for call in (rows_had, lambda book, asks: saying_plan(book, saying, asks), lambda book, asks: best_ask(book), lambda book, asks: grid_plan(book)):
            self.refuses(TooMany("signs", 6), call, plain, [])
        for call in (settles, least_lot):
            self.assertIs(type(call(plain, saying, [])), Unsettled)
        for book in TORN:
            paper = Impossible(grid_of(book))
            for call in WITH_SAYING:
                self.refuses(paper, call, book, saying, [])
            for call in (best_ask, grid_plan):
                self.refuses(paper, call, book)
            self.refuses(paper, rows_had, book, [])
            self.assertIs(shows_best_ask(book, None), False)
        for value in NO_BOOKS:
            for call in (asks_of, best_ask, grid_plan):
                self.refuses(BadBook("book"), call, value)
            for shows in (shows_best_ask, shows_grid_plan):
                self.refuses(BadBook("book"), shows, value, None)
            self.refuses(BadBook("book"), rows_had, value, None)


if __name__ == "__main__":
    unittest.main()
