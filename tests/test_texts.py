"""Texts: what is written is read, and a text bent at any item is read to what has it as its text, or refused there."""

import random
import unittest

from mutesigns.books import Book
from mutesigns.checks import is_name
from mutesigns.errors import BadText
from mutesigns.facts import Fact
from mutesigns.grids import Grid
from mutesigns.sayings import Saying
from mutesigns.sheets import Sheet
from oracles import SIDES, drawn_book, drawn_sayings
from support import Case
from test_books import EIGHT
from test_grids import all_grids
from test_sheets import drawn_sheet

NUMBERS = [str(number) for number in range(10)]
MANY = NUMBERS + ["10", "11", "9" * 60]


def saying_steps(signs=None, behind=None):
    """Yields, item by item, which item can stand next, None being the end; the same below."""
    alike = True
    side = yield lambda item: item in ("not", *SIDES)
    if side == "not":
        alike = False
        side = yield lambda item: item in SIDES
    one = yield lambda item: is_name(item) and (signs is None or item in signs)
    other = yield lambda item: (is_name(item) and item > one and (signs is None or item in signs)
                                and (behind is None or (side, one, item, alike) > behind))
    return side, one, other, alike


def fact_steps(signs=None, room=24, can_end=lambda item, many: item is None):
    """Comes back with the item behind the fact and how many sayings there were."""
    many, behind = 0, None
    while True:
        behind = yield from saying_steps(signs, behind)
        many += 1
        item = yield lambda item: (item == "or" and many < min(4, room)) or can_end(item, many)
        if item != "or":
            return item, many


def sign_steps():
    signs = []
    while True:
        item = yield lambda item: ((is_name(item) and len(signs) < 8 and (not signs or item > signs[-1]))
                                   or (item == ":" and bool(signs)))
        if item == ":":
            return signs
        signs.append(item)


def book_steps():
    signs = yield from sign_steps()
    for _ in range(2):
        yield lambda item: item == "-" or item in NUMBERS[1:9]
    yield lambda item: item == ":"
    facts, room = 0, 24
    first = yield lambda item: item == "-" or item in ("not", *SIDES)
    if first == "-":
        return
    while True:
        facts += 1
        steps = fact_steps(signs, room, lambda item, many: item is None or (item == "/" and facts < 12 and many < room))
        can_stand = next(steps)
        if first is not None:
            can_stand = steps.send(first)
            first = None
        try:
            while True:
                can_stand = steps.send((yield can_stand))
        except StopIteration as end:
            item, many = end.value
        room -= many
        if item is None:
            return


def grid_steps():
    signs = yield from sign_steps()
    told = []
    for side in range(2):
        numbers = []
        for at in range(len(signs)):
            item = yield lambda item: (item in NUMBERS and int(item) <= max(numbers, default=-1) + 1
                                       and (side == 0 or (told[0][at], int(item)) not in zip(told[0], numbers)))
            numbers.append(int(item))
        told.append(numbers)
        if side == 0:
            yield lambda item: item == ":"


def name_steps(mark):
    names = []
    while True:
        item = yield lambda item: ((is_name(item) and len(names) < 4 and item not in names)
                                   or (item == mark and bool(names)))
        if item == mark:
            return names
        names.append(item)


def is_cell_word(item):
    return item is not None and 1 <= item.count("+") + 1 <= 6 and all(is_name(sign) for sign in item.split("+"))


def sheet_steps():
    stems = yield from name_steps("/")
    endings = yield from name_steps(":")
    cells = {}
    for row in range(len(stems)):
        for column in range(len(endings)):
            needs_word = ((column == len(endings) - 1 and all(cells[row, at] == "-" for at in range(column)))
                          or (row == len(stems) - 1 and all(cells[at, column] == "-" for at in range(row))))
            item = yield lambda item: is_cell_word(item) or (item == "-" and not needs_word)
            cells[row, column] = item


def refused_at(steps, text):
    """The item at which a text is refused, None if it is none."""
    items = text.split(" ")
    can_stand = next(steps)
    for at, item in enumerate(items):
        if not can_stand(item):
            return at
        try:
            can_stand = steps.send(item)
        except StopIteration:
            return None if at == len(items) - 1 else at + 1
    return None if can_stand(None) else len(items)


def bent(draw, items, pool):
    """Texts of these items bent at any item, as lists of items."""
    for at in range(len(items)):
        yield items[:at] + items[at + 1:]
        yield items[:at]
        others = draw.sample(pool, 3) + [draw.choice(items), "", items[at].capitalize(), items[at] + " ", "0" + items[at],
                                         items[at] + "0" * 60, items[at] + "+a", "-" + items[at]]
        for other in others:
            yield items[:at] + [other] + items[at + 1:]
            yield items[:at] + [other] + items[at:]
        other = draw.randrange(len(items))
        swapped = list(items)
        swapped[at], swapped[other] = swapped[other], swapped[at]
        yield swapped
    for other in draw.sample(pool, 3) + ["", "/", "or", ":", "-"]:
        yield [*items, other]


POOL = [*EIGHT, "a1", "b2", "zz", "row", "column", "not", "or", "/", ":", "-", "?", "a+b", "c", "a+b+c+d+e+f", "a+b+c+d+e+f+g",
        "a+", "+", *MANY, "00", "01", "+1", "-1", "1" * 61, "Row", "A", "a" * 12, "a" * 13]


class Texts(Case):
    def check(self, value, steps, draw):
        read, text = type(value).read, str(value)
        self.assertEqual(read(text), value)
        self.assertEqual(str(read(text)), text)
        self.assertIsNone(refused_at(steps(), text), text)
        for items in bent(draw, text.split(" "), POOL):
            told = " ".join(items)
            at = refused_at(steps(), told)
            if at is None:
                self.assertEqual(str(read(told)), told)
            else:
                self.refuses(BadText(0, at), read, told)

    def test_sayings(self):
        draw = random.Random(1)
        for _ in range(30):
            self.check(drawn_sayings(draw, EIGHT, 1)[0], saying_steps, draw)

    def test_facts(self):
        draw = random.Random(2)
        for many in (1, 2, 3, 4, 4) * 12:
            self.check(Fact(drawn_sayings(draw, EIGHT[:4], many)), fact_steps, draw)

    def test_books(self):
        draw = random.Random(3)
        for many in (2, 3, 5, 8) * 8:
            self.check(drawn_book(draw, EIGHT[:many], bounds=(None, 1, 3, 8)), book_steps, draw)
        self.check(Book(["a"], [], 1, None), book_steps, draw)

    def test_full_books(self):
        draw = random.Random(4)
        fours = [Fact(drawn_sayings(draw, EIGHT[:4], 4)) for _ in range(6)]
        twos = [Fact(drawn_sayings(draw, EIGHT[:4], 2)) for _ in range(12)]
        self.check(Book(EIGHT, fours), book_steps, draw)
        self.check(Book(EIGHT, twos), book_steps, draw)
        self.check(Book(EIGHT, [*fours[:5], *twos[:1], *drawn_sayings(draw, EIGHT, 2)], 8, 8), book_steps, draw)

    def test_grids(self):
        draw = random.Random(5)
        for many in (1, 2, 3, 4):
            for grid in draw.sample(all_grids(EIGHT[:many]), min(25, len(all_grids(EIGHT[:many])))):
                self.check(grid, grid_steps, draw)
        self.check(Grid(EIGHT, list(range(8)), [0] * 8), grid_steps, draw)

    def test_sheets(self):
        draw = random.Random(6)
        for _ in range(60):
            self.check(drawn_sheet(draw), sheet_steps, draw)

    def test_no_strings(self):
        for shape in (Saying, Fact, Book, Grid, Sheet):
            for value in (None, 0, True, b"row a b", ["row", "a", "b"], ("a", ":"), {"a": 1}, shape):
                self.refuses(BadText(0, 0), shape.read, value)
            self.refuses(BadText(0, 0), shape.read, "")
            self.refuses(BadText(0, 0), shape.read, " ")
            self.refuses(BadText(0, 0), shape.read, " " * 99999)


if __name__ == "__main__":
    unittest.main()
