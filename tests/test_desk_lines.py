"""Shelves, and the lines of a desk: a line bent at any item is read to just its values, or refused there."""

import random
import unittest

from mutesigns.books import Book
from mutesigns.checks import is_name
from mutesigns.desk_lines import ASKS, DEEDS, read_line
from mutesigns.errors import BadDesk, BadText, NoName, Twice
from mutesigns.facts import Fact
from mutesigns.sheets import Sheet
from mutesigns.shelves import Shelf
from oracles import SIDES, drawn_book, drawn_sayings
from support import NO_LISTS, NO_NAMES, SAME, Case
from test_books import EIGHT
from test_sheets import SHEET, drawn_sheet
from test_texts import NUMBERS, POOL, bent, book_steps, fact_steps, is_cell_word, refused_at, sheet_steps

BOOK = Book(["a", "b"])
NAMES_BEHIND = {"drop": 1, "show": 1, "facts": 1, "kept": 1, "grids": 1, "slips": 1, "stand": 4, "names": 0, "word": 3}


def name_step():
    return (yield lambda item: item is not None and is_name(item))


def is_number(item):
    return item is not None and item.isascii() and item.isdigit() and str(int(item)) == item and len(item) <= 60


def line_steps():
    """Yields, item by item, which item can stand next in a line."""
    first = yield lambda item: item in ("put", "drop", "add", "strike", "bound", "word", "names", "show", "facts", "kept", "grids", "is",
                                        "with", "bears", "slips", "stand")
    for _ in range(NAMES_BEHIND.get(first, 1)):
        yield from name_step()
    if first == "put":
        kind = yield lambda item: item in ("book", "sheet")
        yield from book_steps() if kind == "book" else sheet_steps()
    elif first in ("add", "is", "bears"):
        yield from fact_steps()
    elif first == "strike":
        yield is_number
        while True:
            if (yield lambda item: item is None or is_number(item)) is None:
                return
    elif first in ("bound", "with"):
        yield lambda item: item in SIDES
        if first == "with":
            yield from name_step()
        else:
            yield lambda item: item == "-" or item in NUMBERS[1:9]
    elif first == "word":
        yield is_cell_word


def values_in(line):
    """The values of a line that is right, told plainly."""
    items = line.split(" ")
    first, rest = items[0], items[1:]
    if first == "put":
        return (first, rest[0], {"book": Book, "sheet": Sheet}[rest[1]].read(" ".join(rest[2:])))
    if first in ("add", "is", "bears"):
        return (first, rest[0], Fact.read(" ".join(rest[1:])))
    if first == "strike":
        return (first, rest[0], *[int(item) for item in rest[1:]])
    if first == "bound":
        return (first, rest[0], rest[1], None if rest[2] == "-" else int(rest[2]))
    if first == "word":
        return (first, *rest[:3], tuple(rest[3].split("+")))
    return tuple(items)


def drawn_fact(draw, signs, most=4):
    return Fact(drawn_sayings(draw, signs, draw.randint(1, most)))


def drawn_line(draw, first):
    """A line with this first item."""
    name = draw.choice(("a", "b9", "row", "book", "not"))
    if first == "put":
        thing = draw.choice((drawn_book(draw, EIGHT[:4]), drawn_sheet(draw)))
        return f"put {name} {'book' if isinstance(thing, Book) else 'sheet'} {thing}"
    if first in ("add", "is", "bears"):
        return f"{first} {name} {drawn_fact(draw, EIGHT[:3])}"
    if first == "strike":
        return " ".join(["strike", name, *[draw.choice((*NUMBERS, "12", "9" * 60)) for _ in range(draw.randint(1, 4))]])
    if first == "bound":
        return f"bound {name} {draw.choice(SIDES)} {draw.choice((*NUMBERS[1:9], '-'))}"
    if first == "with":
        return f"with {name} {draw.choice(SIDES)} {draw.choice(EIGHT)}"
    if first == "word":
        return " ".join(["word", name, "one", "e", "+".join(draw.choices(EIGHT, k=draw.randint(1, 6)))])
    return " ".join([first, *draw.choices(("a", "b9", "row", "x"), k=NAMES_BEHIND[first])])


class Shelves(Case):
    def test_attributes(self):
        things = [["b", BOOK], ("a", SHEET)]
        shelf = Shelf(things)
        things.append(("c", BOOK))
        things[0][0] = "z"
        self.assertEqual((shelf.things, shelf.names), ((("b", BOOK), ("a", SHEET)), ("b", "a")))
        self.assertTrue(type(shelf.things) is tuple and all(type(pair) is tuple for pair in shelf.things))
        self.assertEqual((shelf.thing("a"), shelf.thing(name="b")), (SHEET, BOOK))
        self.assertEqual((Shelf().things, Shelf().names, Shelf(things=()).things), ((), (), ()))

    def test_equal(self):
        shelf = Shelf([("b", BOOK), ("a", SHEET)])
        self.assertTrue(shelf == Shelf((["b", Book(["b", "a"])], ["a", Sheet.read(str(SHEET))])))
        for other in (Shelf([("a", SHEET), ("b", BOOK)]), Shelf([("b", BOOK)]), Shelf([("b", BOOK), ("c", SHEET)]), Shelf([("b", BOOK), ("a", BOOK)]),
                      shelf.things, None, SAME):
            self.assertTrue(shelf != other)
            self.assertFalse(shelf == other)
        self.assertTrue(Shelf() == Shelf([]))

    def test_errors(self):
        for value in NO_LISTS + [[None], ["ab"], [("a",)], [("a", None)], [("a", BOOK, 1)], [(BOOK, "a")], [("a", str(BOOK))], [{"a": BOOK, "b": BOOK}],
                                 [("a", Book)], [SAME], [("a", SAME)], *[[(name, BOOK)] for name in NO_NAMES]]:
            self.refuses(BadDesk("things"), Shelf, value)
        self.refuses(Twice("b"), Shelf, [("a", BOOK), ("b", BOOK), ("b", SHEET), ("a", BOOK)])
        self.refuses(BadDesk("things"), Shelf, [("a", BOOK), ("a", BOOK), None])
        shelf = Shelf([("b", BOOK)])
        for value in (None, "a", "", 0, True, ["b"], SAME, BOOK):
            self.refuses(NoName(value), shelf.thing, value)
        self.refuses(NoName("a"), Shelf().thing, "a")


class Lines(Case):
    def check(self, line):
        at = refused_at(line_steps(), line)
        if at is not None:
            self.refuses(BadText(0, at), read_line, line)
            return False
        found = read_line(line)
        self.assertEqual((type(found), found), (tuple, values_in(line)))
        self.assertEqual([type(value) for value in found], [type(value) for value in values_in(line)])
        self.assertEqual(found, read_line(line=line))
        return True

    def test_tables(self):
        self.assertEqual(DEEDS, ("put", "drop", "add", "strike", "bound", "word"))
        self.assertEqual(ASKS, ("names", "show", "facts", "kept", "grids", "is", "with", "bears", "slips", "stand"))

    def test_right(self):
        draw = random.Random(1)
        for first in DEEDS + ASKS:
            for _ in range(25):
                self.assertTrue(self.check(drawn_line(draw, first)))

    def test_bent(self):
        draw = random.Random(2)
        pool = [*POOL, *DEEDS, *ASKS, "book", "sheet", "BOOK", "Row", "0", "9", "8", "x+y"]
        found = []
        for first in DEEDS + ASKS:
            for _ in range(4):
                for items in bent(draw, drawn_line(draw, first).split(" "), pool):
                    found.append(self.check(" ".join(items)))
        self.assertTrue(found.count(True) > 100 and found.count(False) > 1000)

    def test_each(self):
        for line, at in (("bound a row 0", 3), ("bound a row 9", 3), ("bound a row", 3), ("bound a row 08", 3), ("bound a Row 1", 2), ("bound a row 1 1", 4),
                         ("strike a", 2), ("strike a 00", 2), ("strike a 0 01", 3), ("strike a " + "1" * 61, 2), ("strike a -1", 2), ("strike a 1 ", 3),
                         ("word a one b a+b+c+d+e+f+g", 4), ("word a one b -", 4), ("word a one b", 4), ("word a one b x y", 5), ("word a one b x+", 4),
                         ("put a", 2), ("put a Book a", 2), ("put a book a : - - : - ", 9), ("put a book b a : - - : -", 4), ("put a book a : 9 - : -", 5),
                         ("put a sheet s / e : -", 7), ("put 1 book a : - - : -", 1), ("put a book", 3), ("names a", 1), ("names ", 1), ("name", 0), ("", 0),
                         (" names", 0), ("Names", 0), ("is a", 2), ("is a row b a", 4), ("is a row a b or", 6), ("is a row a b or row a b", 8),
                         ("is a column a b or column a c or column a d or row a b or row a c", 17), ("with a row", 3), ("with a row 1", 3), ("with a side b", 2),
                         ("stand a b c", 4), ("stand a b c d e", 5), ("show", 1), ("show a b", 2), ("drop a b", 2), ("slips", 1), ("kept A", 1), ("put", 1)):
            self.refuses(BadText(0, at), read_line, line)
            self.assertEqual(refused_at(line_steps(), line), at)
        self.assertEqual(read_line("strike a 0 0 " + "9" * 60), ("strike", "a", 0, 0, 10 ** 60 - 1))
        self.assertEqual(read_line("is a column a b or column a c or column a d or row a b")[2].sayings[3].side, "row")
        self.assertEqual(read_line("put a sheet s / e : x")[2], Sheet(["s"], ["e"], [[["x"]]]))

    def test_no_strings(self):
        for value in (None, 0, True, b"names", ["names"], ("names",), {"names": 1}, SAME, read_line):
            self.refuses(BadText(0, 0), read_line, value)
        for text in (" " * 99999, "names" * 9999, "a" * 100000):
            self.refuses(BadText(0, 0), read_line, text)
        self.refuses(BadText(0, 2), read_line, "strike a " + "1" * 99000)


if __name__ == "__main__":
    unittest.main()
