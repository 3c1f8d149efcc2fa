"""Deed lines, ask lines, desks and stories: beside a plain model of what is kept, what was done and what was taken back."""

import random
import unittest

from mutesigns.answers import answer
from mutesigns.bearing import Unborne, bearing
from mutesigns.books import Book
from mutesigns.desk import Desk
from mutesigns.desk_asks import answer_of
from mutesigns.desk_deeds import changed
from mutesigns.desk_lines import ASKS, DEEDS, read_line
from mutesigns.errors import BadBook, BadDesk, BadLine, BadText, Impossible, Misfit, NoEnding, NoFact, NoName, NoSign, NoStem, Nothing
from mutesigns.errors import SignError, TooMany, Twice
from mutesigns.listing import many_grids
from mutesigns.possible import grid_of
from mutesigns.sheetgaps import words_in
from mutesigns.sheets import Sheet
from mutesigns.shelves import Shelf
from mutesigns.slips import slips
from mutesigns.stories import parting, replay
from mutesigns.suregrid import sure_grid
from oracles import drawn_book
from support import NO_LISTS, SAME, Case, fields
from test_books import EIGHT
from test_desk_lines import drawn_fact

BOOK = Book.read("k m n p : - - : row k n / row m p / column k m")
SHEET = Sheet.read("one two / e f : k n m -")
SHELF = Shelf([("a", BOOK), ("s", SHEET)])
NO_LINES = [None, 0, True, b"names", ["names"], ("names",), {"names": 1}, SAME]
NO_SHELVES = [None, 0, (), [("a", BOOK)], {"a": BOOK}, SAME, BOOK, SHELF.things]


def outcome(call, *args):
    """What a call returns, or its error told by its class and its fields."""
    try:
        return call(*args)
    except SignError as error:
        return told_error(error)


def told_error(error):
    """An error by its class and its fields, one within it likewise."""
    return (type(error).__name__, repr({name: told_error(value) if isinstance(value, SignError) else value
                                        for name, value in fields(error).items()}))


def drawn_shelf(draw):
    """A shelf with two books and two sheets."""
    sheets = [Sheet(["one", "two"], ["e", "f"], [[[draw.choice("abc")], [draw.choice("abc")]], [[draw.choice("abc")], None]]) for _ in range(2)]
    books = [drawn_book(draw, EIGHT[:draw.choice((2, 3, 3))], 4, (None, None, 2)) for _ in range(2)]
    things = [("p", books[0]), ("s", sheets[0]), ("q", books[1]), ("t", sheets[1])]
    draw.shuffle(things)
    return Shelf(things)


def drawn_told(draw, first):
    """A line with this first item, about things that are kept, or are not."""
    name = draw.choice(("p", "q", "p", "q", "s", "t", "x"))
    sheet = draw.choice(("s", "t", "s", "t", "p", "y"))
    fact = drawn_fact(draw, EIGHT[:draw.choice((2, 2, 3, 4))], 2)
    if first == "put":
        return draw.choice((f"put {draw.choice('xyzp')} book {drawn_book(draw, EIGHT[:3], 3, (None, 2))}", f"put {draw.choice('xyzs')} sheet one / e : a+b"))
    if first in ("add", "is", "bears"):
        return f"{first} {name} {fact}"
    if first == "strike":
        return " ".join(["strike", name, *[draw.choice("00123") for _ in range(draw.randint(1, 2))]])
    if first == "bound":
        return f"bound {name} {draw.choice(('row', 'column'))} {draw.choice('-12385')}"
    if first == "with":
        return f"with {name} {draw.choice(('row', 'column'))} {draw.choice('aabcx')}"
    cell = f"{draw.choice(('one', 'two', 'two', 'zz'))} {draw.choice(('e', 'f', 'f', 'yy'))}"
    if first == "word":
        return f"word {sheet} {cell} {draw.choice(('a', 'b+a', 'c'))}"
    if first == "stand":
        return f"stand {name} {sheet} {cell}"
    if first == "names":
        return "names"
    return f"{first} {draw.choice((name, sheet))}"


def kept(things, name, kind):
    """The thing under a name, of this kind."""
    for one, thing in things:
        if one == name:
            if not isinstance(thing, kind):
                raise Misfit("kinds")
            return thing
    raise NoName(name)


def plain_changed(things, line):
    """What a deed line makes of a list of pairs, and the answer, told plainly."""
    first, name, *rest = read_line(line)
    if first == "put":
        if name in [one for one, _ in things]:
            raise Twice(name)
        return [*things, (name, rest[0])], str(len(things) + 1)
    if first == "drop":
        kept(things, name, object)
        return [pair for pair in things if pair[0] != name], str(len(things) - 1)
    thing = kept(things, name, Sheet if first == "word" else Book)
    if first == "add":
        new, told = thing.with_fact(rest[0]), str(len(thing.facts))
    elif first == "strike":
        new = thing.without(rest)
        told = str(len(new.facts))
    elif first == "bound":
        new = thing.bounded(*((rest[1], thing.most_columns) if rest[0] == "row" else (thing.most_rows, rest[1])))
        told = "-" if rest[1] is None else str(rest[1])
    else:
        new = thing.with_word(*rest)
        told = str(len(new.gaps))
    return [(one, new if one == name else other) for one, other in things], told


def plain_answer(things, line):
    """The answer to an ask line, told plainly."""
    first, *rest = read_line(line)
    names = [name for name, _ in things]
    if first == "names":
        return " ".join(names) or "-"
    if first == "show":
        thing = kept(things, rest[0], object)
        return f"{type(thing).__name__.lower()} {thing}"
    if first == "stand":
        for name in rest[:2]:
            kept(things, name, object)
        words = words_in(kept(things, rest[0], Book), kept(things, rest[1], Sheet), *rest[2:])
        return " / ".join("+".join("?" if sign is None else sign for sign in word) for word in words)
    book = kept(things, rest[0], Book)
    if first == "with":
        if rest[2] not in book.signs:
            raise NoSign(rest[2])
        grid = sure_grid(book)
        return " ".join(sign for sign in book.signs if grid.are_alike(rest[1], sign, rest[2]))
    if first == "bears":
        paper = bearing(book, rest[1])
        return "no" if type(paper) is Unborne else " ".join(map(str, paper.numbers)) or "-"
    return {"facts": lambda: str(len(book.facts)), "kept": lambda: "yes" if grid_of(book) else "no", "grids": lambda: str(many_grids(book)),
            "is": lambda: answer(book, rest[1]).kind, "slips": lambda: " ".join(map(str, slips(book).numbers)) or "-"}[first]()


class Deeds(Case):
    def test_drawn(self):
        draw = random.Random(1)
        kinds = set()
        for _ in range(600):
            shelf = drawn_shelf(draw)
            ahead, line = Shelf(shelf.things), drawn_told(draw, draw.choice(DEEDS))
            found = outcome(changed, shelf, line)
            right = outcome(plain_changed, list(shelf.things), line)
            if isinstance(right[0], list):
                self.assertEqual((type(found), type(found[0]), found[0].things, found[1]), (tuple, Shelf, tuple(right[0]), right[1]))
                self.assertEqual(found, changed(line=line, shelf=shelf))
            else:
                self.assertEqual(found, right)
            kinds.add((line.split(" ")[0], right[0] if isinstance(right[0], str) else "done"))
            self.assertEqual(shelf, ahead)
        self.assertTrue({(first, "done") for first in DEEDS} <= kinds)
        self.assertTrue({("put", "Twice"), ("drop", "NoName"), ("add", "NoSign"), ("add", "Misfit"), ("strike", "NoFact"), ("strike", "Twice"),
                         ("word", "NoStem"), ("word", "NoEnding"), ("word", "Misfit"), ("bound", "NoName")} <= kinds, kinds)

    def test_each(self):
        for line, shown, told in (
                ("add a column m p", "show a", "3"), ("strike a 2 0", "show a", "1"), ("bound a row 3", "show a", "3"), ("bound a column -", "show a", "-"),
                ("word s two f p+q", "show s", "0"), ("word s one e k", "show s", "1"), ("drop a", "names", "1"), ("put z sheet s / e : k", "names", "3"),
                ("put b2 book a : - - : -", "show b2", "3")):
            shelf, said = changed(SHELF, line)
            self.assertEqual(said, told)
        self.assertEqual(answer_of(changed(SHELF, "strike a 2 0")[0], "show a"), "book k m n p : - - : row m p")
        self.assertEqual(answer_of(changed(SHELF, "bound a column 2")[0], "show a"), "book k m n p : - 2 : row k n / row m p / column k m")
        self.assertEqual(answer_of(changed(changed(SHELF, "bound a row 2")[0], "bound a row -")[0], "show a"), answer_of(SHELF, "show a"))
        self.assertEqual(answer_of(changed(SHELF, "word s two f p+q")[0], "show s"), "sheet one two / e f : k n m p+q")
        self.assertEqual(changed(SHELF, "drop a")[0].names, ("s",))
        self.assertEqual(changed(SHELF, "put a2 book a : - - : -")[0].names, ("a", "s", "a2"))

    def test_places_stay(self):
        """What is changed stays in its place."""
        shelf = Shelf([("a", BOOK), ("s", SHEET), ("b", BOOK)])
        for line in ("add a row k m", "word s two f p", "strike b 0"):
            self.assertEqual(changed(shelf, line)[0].names, ("a", "s", "b"))

    def test_errors(self):
        for value in NO_SHELVES:
            self.refuses(BadDesk("shelf"), changed, value, None)
            self.refuses(BadDesk("shelf"), answer_of, value, None)
        for value in NO_LINES:
            self.refuses(BadText(0, 0), changed, SHELF, value)
            self.refuses(BadText(0, 0), answer_of, SHELF, value)
        for line in (*ASKS, "names", "show a", "is a row k n", "is", "bears a ?", "?", "", "Put a book a : - - : -"):
            self.refuses(BadText(0, 0), changed, SHELF, line)
        for line in (*DEEDS, "drop a", "drop", "add a row k n", "put a ?", "?", "", "Names"):
            self.refuses(BadText(0, 0), answer_of, SHELF, line)
        for line, at in (("drop", 1), ("drop a a", 2), ("add a", 2), ("put a shelf", 2)):
            self.refuses(BadText(0, at), changed, SHELF, line)
        for line, at in (("names a", 1), ("is a row k k", 4), ("with a row", 3)):
            self.refuses(BadText(0, at), answer_of, SHELF, line)

    def test_order(self):
        """No such line; a name that is not kept; one that is kept already; kinds; then what the functions raise."""
        for line, error in (
                ("drop x ?", BadText(0, 2)), ("add x row a a", BadText(0, 4)), ("drop x", NoName("x")), ("add x row y z", NoName("x")),
                ("add s row y z", Misfit("kinds")), ("add a row y z", NoSign("y")), ("strike x 9 9", NoName("x")), ("strike s 9 9", Misfit("kinds")),
                ("strike a 9 9", NoFact(9)), ("strike a 0 2 0 2", Twice(0)), ("strike a 0 0 7", NoFact(7)), ("bound x row 1", NoName("x")),
                ("bound s row 1", Misfit("kinds")), ("word x y z w", NoName("x")), ("word a y z w", Misfit("kinds")), ("word s y z w", NoStem("y")),
                ("word s one z w", NoEnding("z")), ("put a book a : - - : -", Twice("a")), ("put a sheet s / e : x", Twice("a")), ("put s book a : - - : ?", BadText(0, 8))):
            self.refuses(error, changed, SHELF, line)
        for line, error in (
                ("show x y", BadText(0, 2)), ("show x", NoName("x")), ("facts x", NoName("x")), ("facts s", Misfit("kinds")), ("kept s", Misfit("kinds")),
                ("grids s", Misfit("kinds")), ("is x row y z", NoName("x")), ("is s row y z", Misfit("kinds")), ("is a row y z", NoSign("y")),
                ("with s row y", Misfit("kinds")), ("with a row y", NoSign("y")), ("bears s row y z", Misfit("kinds")), ("bears a row y z", NoSign("y")),
                ("slips s", Misfit("kinds")), ("stand x y one e", NoName("x")), ("stand a y one e", NoName("y")), ("stand s y one e", NoName("y")),
                ("stand x a one e", NoName("x")), ("stand s a one e", Misfit("kinds")), ("stand a a one e", Misfit("kinds")), ("stand s s one e", Misfit("kinds")),
                ("stand a s x y", NoStem("x")), ("stand a s one y", NoEnding("y"))):
            self.refuses(error, answer_of, SHELF, line)


class Asks(Case):
    def test_drawn(self):
        draw = random.Random(2)
        kinds = set()
        for _ in range(900):
            shelf = drawn_shelf(draw)
            line = drawn_told(draw, draw.choice(ASKS))
            found, right = outcome(answer_of, shelf, line), outcome(plain_answer, shelf.things, line)
            self.assertEqual(found, right, line)
            kinds.add((line.split(" ")[0], "told" if isinstance(right, str) else right[0]))
        self.assertTrue({(first, "told") for first in ASKS} <= kinds)
        self.assertTrue({("is", "Impossible"), ("with", "NoSign"), ("stand", "NoSign"), ("stand", "NoStem"), ("show", "NoName"), ("kept", "Misfit")} <= kinds)

    def test_each(self):
        lines = {"names": "a s", "show s": "sheet one two / e f : k n m -", "facts a": "3", "kept a": "yes", "grids a": str(many_grids(BOOK)),
                 "is a row k m or row k n": "sure", "with a column m": "k m", "bears a row k n": "0", "bears a column n p": "no",
                 "bears a not row k m or row k m": "-", "stand a s one e": "k", "show a": "book " + str(BOOK)}
        for line, told in lines.items():
            self.assertEqual((answer_of(SHELF, line), answer_of(line=line, shelf=SHELF)), (told, told))
        self.assertEqual(answer_of(Shelf(), "names"), "-")
        torn = Shelf([("t", Book(["a", "b", "c"], [], 1, 2))])
        self.assertEqual((answer_of(torn, "kept t"), answer_of(torn, "grids t"), answer_of(torn, "facts t")), ("no", "0", "0"))
        long = Shelf([("b", Book(["a", "b", "c"])), ("s", Sheet.read("one two / e f : a+b b a+c+b+c+a+b -"))])
        self.assertEqual(answer_of(long, "stand b s two f"), plain_answer(long.things, "stand b s two f"))

    def test_large_books(self):
        """What the functions raise for books that are not plain, with more signs than are asked."""
        shelf = Shelf([("b", Book(EIGHT, [], 8)), ("p", Book(EIGHT)), ("s", Sheet(["s"], ["e"], [[["a"]]]))])
        for line in ("kept b", "grids b", "is b row a b", "with b row a", "bears b row a b", "slips b", "grids p"):
            self.refuses(TooMany("signs", 6), answer_of, shelf, line)
        self.refuses(TooMany("signs", 5), answer_of, shelf, "stand b s s e")
        self.refuses(NoSign("x"), answer_of, shelf, "with b row x")
        self.assertEqual([answer_of(shelf, line) for line in ("kept p", "is p row a b", "with p row a", "slips p")], ["yes", "open", "a", "-"])
        torn = Shelf([("t", Book(["a", "b"], [], 1, 1))])
        for line in ("is t row a b", "with t row a", "bears t row a b", "slips t"):
            self.refuses(Impossible(grid_of(torn.thing("t"))), answer_of, torn, line)


class Model:
    """A desk told plainly: the lines done, and those taken back."""

    def __init__(self):
        self.story, self.undone = [], []

    def things(self):
        things = []
        for line in self.story:
            things, _ = plain_changed(things, line)
        return things

    def tell(self, line):
        if isinstance(line, str) and line.split(" ")[0] in DEEDS:
            answered = plain_changed(self.things(), line)[1]
            self.story.append(line)
            self.undone = []
            return answered
        read_line(line)
        return plain_answer(self.things(), line)

    def tell_all(self, lines):
        story, undone = list(self.story), list(self.undone)
        told = []
        for at, line in enumerate(lines):
            try:
                told.append(self.tell(line))
            except SignError as error:
                self.story, self.undone = story, undone
                raise BadLine(at, error)
        return tuple(told)

    def try_all(self, lines):
        story, undone = list(self.story), list(self.undone)
        try:
            return self.tell_all(lines)
        finally:
            self.story, self.undone = story, undone

    def undo(self):
        if not self.story:
            raise Nothing()
        self.undone.append(self.story.pop())
        return self.undone[-1]

    def redo(self):
        if not self.undone:
            raise Nothing()
        self.story.append(self.undone.pop())
        return self.story[-1]


def drawn_any_line(draw):
    if draw.random() < 0.05:
        return draw.choice([*NO_LINES[:4], "", "drop", "put p book", "names a"])
    return drawn_told(draw, draw.choice([*DEEDS, *DEEDS, "put", "put", "names", "show", "facts", "is", "kept"]))


class Desks(Case):
    def same(self, desk, model):
        self.assertEqual((desk.story, desk.shelf.things), (tuple(model.story), tuple(model.things())))
        self.assertEqual((type(desk.story), type(desk.shelf), len(desk)), (tuple, Shelf, len(model.things())))

    def test_runs(self):
        """Runs of forty steps: each step is as in the plain model, and twins go their own ways."""
        kinds = set()
        for seed in range(25):
            draw = random.Random(seed)
            desk, model = Desk(), Model()
            twins = []
            for _ in range(40):
                way = draw.choice(("call", "call", "told", "tried", "undo", "undo", "redo", "twin"))
                lines = [drawn_any_line(draw) for _ in range(draw.randint(0, 4))]
                if way == "call":
                    line = drawn_any_line(draw)
                    found, right = outcome(desk, line), outcome(model.tell, line)
                elif way in ("told", "tried"):
                    found = outcome(getattr(desk, way), *lines)
                    right = outcome({"told": model.tell_all, "tried": model.try_all}[way], lines)
                elif way in ("undo", "redo"):
                    found, right = outcome(getattr(desk, way)), outcome(getattr(model, way))
                else:
                    twins.append((desk.twin(), list(model.story), list(model.undone)))
                    self.assertTrue(twins[-1][0] == desk)
                    continue
                self.assertEqual(found, right, (way, lines))
                kinds.add((way, right[0] if isinstance(right, tuple) and right and right[0] in ("BadLine", "Nothing") else "done"))
                self.same(desk, model)
            for twin, story, undone in twins:
                other = Model()
                other.story, other.undone = story, undone
                self.same(twin, other)
                while undone:
                    self.assertEqual(twin.redo(), other.redo())
                self.same(twin, other)
        self.assertTrue({("told", "done"), ("told", "BadLine"), ("tried", "done"), ("tried", "BadLine"), ("undo", "done"), ("undo", "Nothing"),
                         ("redo", "done"), ("redo", "Nothing"), ("call", "done")} <= kinds, kinds)

    def test_all_or_none(self):
        desk = Desk()
        desk.told("put a book k m : - - : -", "add a row k m")
        desk.undo()
        for call in (desk.told, desk.tried):
            error = BadLine(2, NoName("x"))
            with self.assertRaises(BadLine) as raised:
                call("add a column k m", "put b book k : - - : -", "facts x", "drop y")
            self.assertEqual(told_error(raised.exception), told_error(error))
            self.assertIs(type(raised.exception.error), NoName)
            self.assertEqual((desk.story, desk("facts a")), (("put a book k m : - - : -",), "0"))
        self.assertEqual(desk.tried("add a column k m", "facts a"), ("0", "1"))
        self.assertEqual((desk.redo(), desk("facts a"), desk.told(), desk.tried()), ("add a row k m", "1", (), ()))

    def test_what_can_be_done_again(self):
        """A deed ends it, an ask does not, nor what fails, nor what is tried."""
        desk = Desk()
        desk.told("put a book k m : - - : -", "add a row k m", "add a not column k m")
        self.assertEqual((desk.undo(), desk.undo()), ("add a not column k m", "add a row k m"))
        desk("facts a")
        desk.told("kept a", "names")
        desk.told()
        self.refuses(NoName("x"), desk, "drop x")
        self.refuses(BadText(0, 0), desk, None)
        with self.assertRaises(BadLine):
            desk.told("add a row k m", "drop x")
        desk.tried("drop a", "put b book k : - - : -")
        self.assertEqual((desk.redo(), desk.story), ("add a row k m", ("put a book k m : - - : -", "add a row k m")))
        twin = desk.twin()
        desk("bound a row 2")
        self.refuses(Nothing(), desk.redo)
        self.assertEqual(twin.redo(), "add a not column k m")
        self.assertEqual([twin.undo() for _ in range(3)], ["add a not column k m", "add a row k m", "put a book k m : - - : -"])
        self.refuses(Nothing(), twin.undo)
        self.assertEqual((len(twin), len(desk), twin.shelf), (0, 1, Shelf()))

    def test_as_if_never_told(self):
        desk = Desk()
        desk.told("put a book k m n : - 2 : -", "add a row k m")
        ahead = [desk(line) for line in ("show a", "kept a", "grids a", "names")]
        desk.told("add a row m n", "put b sheet s / e : k", "drop a")
        for _ in range(3):
            desk.undo()
        self.assertEqual([desk(line) for line in ("show a", "kept a", "grids a", "names")], ahead)

    def test_values(self):
        desk = Desk()
        desk.told("put a book k : - - : -", "put s sheet s / e : k")
        self.assertEqual((len(desk), len(Desk()), "a" in desk, "s" in desk, "k" in desk), (2, 0, True, True, False))
        for value in (None, 0, True, ["a"], ("a", desk.shelf.thing("a")), SAME, "", desk.shelf.thing("a")):
            self.assertIs(value in desk, False)
        other = Desk()
        other.told("put s sheet s / e : k", "put a book k : - - : -")
        self.assertTrue(desk != other)
        other.told("drop s", "put s sheet s / e : k")
        self.assertTrue(desk == other and desk.story != other.story)
        for value in (desk.shelf, None, SAME, Desk(), "desk"):
            self.assertTrue(desk != value)
            self.assertFalse(desk == value)
        self.assertTrue(Desk() == Desk())

    def test_lines_of_any_kind(self):
        desk = Desk()
        for value in NO_LINES:
            self.refuses(BadText(0, 0), desk, value)
            for call in (desk.told, desk.tried):
                with self.assertRaises(BadLine) as raised:
                    call("names", value)
                self.assertEqual((raised.exception.line, vars(raised.exception.error)), (1, {"line": 0, "item": 0}))
        self.assertEqual(desk(line="names"), "-")

    def test_long_stories(self):
        desk = Desk()
        desk("put a book k m : - - : -")
        desk.told(*["bound a row 2", "bound a row -"] * 700)
        self.assertEqual(len(desk.story), 1401)
        for _ in range(1401):
            desk.undo()
        self.refuses(Nothing(), desk.undo)
        for _ in range(1401):
            desk.redo()
        self.assertEqual((desk("show a"), len(replay(desk.story))), ("book k m : - - : -", 1))


class Largest(Case):
    def test_many_things_and_long_lines(self):
        desk = Desk()
        lines = [f"put n{number} book a b : - - : row a b" for number in range(150)]
        self.assertEqual(desk.told(*lines)[-1], "150")
        self.assertEqual(len(desk("names").split(" ")), 150)
        self.refuses(Twice(0), desk, "strike n0" + " 0" * 40000)
        self.refuses(BadText(0, 40002), desk, "strike n0" + " 0" * 40000 + " x")
        self.refuses(BadText(0, 2), desk, "is n0 " + "row" * 30000)
        self.assertEqual(desk("strike n0 0"), "0")
        self.assertEqual([desk.undo() for _ in range(151)][-1], lines[0])

    def test_largest_books(self):
        """Books of six signs that are not plain, plain ones of eight, with eight facts: answered soon."""
        six = "a b c d e f : 3 4 : row a b or row c d / not row a c / column b d or column e f / not column a e or row b f"
        eight = "a b c d e f g h : - - : row a b / row b c / column a d / column d e / row f g / column f h / not row a f / not column b g"
        desk = Desk()
        desk.told(f"put six book {six}", f"put eight book {eight}")
        self.assertEqual(desk("kept six"), "yes")
        self.assertEqual(desk("grids six"), str(many_grids(Book.read(six))))
        for line in ("is six row a b or row a c", "with six row a", "bears six not row a c", "slips six", "kept eight", "is eight row a h",
                     "with eight column a", "bears eight not row c f", "slips eight"):
            self.assertEqual(desk(line), plain_answer(desk.shelf.things, line))
        desk.told("put s sheet one two / e f : a b d -", "put five book a b c d e : 3 4 : row a b or row c d / not row a c")
        desk.told("put seven book a b c d e f g : - - : row a c / column d f", "put t sheet one two / e f : a+b a+b+c d+b -")
        for line in ("stand five s two f", "stand seven s two f", "stand seven t two f"):
            self.assertEqual(desk(line), plain_answer(desk.shelf.things, line))
        self.assertEqual([desk(line) for line in ("stand five s two f", "stand seven s two f", "stand seven t two f")],
                         ["c / e / ?", "e / g / ?", "d+b+c"])


class Stories(Case):
    def test_replay(self):
        for seed in range(12):
            draw = random.Random(seed)
            desk = Desk()
            for _ in range(25):
                outcome(desk, drawn_any_line(draw))
            again = replay(desk.story)
            self.assertEqual((again, again.story, type(again)), (desk, desk.story, Desk))
            self.assertEqual(replay(lines=list(desk.story)), desk)
            self.refuses(Nothing(), again.redo)
            self.assertEqual(parting(desk, again), len(desk.story))

    def test_parting(self):
        draw = random.Random(3)
        for _ in range(60):
            lines = [f"put {name} book k : - - : -" for name in "abcd"]
            one, other = draw.sample(lines, draw.randint(0, 4)), draw.sample(lines, draw.randint(0, 4))
            same = next((at for at, (mine, its) in enumerate(zip(one, other)) if mine != its), min(len(one), len(other)))
            self.assertEqual(parting(replay(one), replay(other)), same)
            self.assertEqual(parting(other=replay(one), one=replay(other)), same)
        desk = replay(lines)
        desk.undo()
        self.assertEqual((parting(desk, replay(lines)), parting(Desk(), desk)), (3, 0))

    def test_errors(self):
        for value in NO_LISTS + [[None], ["names", 1], [["names"]], SAME, [SAME], Desk()]:
            if value != []:
                self.refuses(BadDesk("lines"), replay, value)
        self.assertEqual(replay([]), Desk())
        first = "put a book k m : - - : -"
        for lines, at, error in (([first, "names"], 1, BadText(0, 0)), ([first, "facts a", "drop x"], 1, BadText(0, 0)), (["is", first], 0, BadText(0, 0)),
                                 ([first, "drop x"], 1, NoName("x")), ([first, first], 1, Twice("a")), ([first, "add a row k"], 1, BadText(0, 4)),
                                 ([first, "add a row k x", "names"], 1, NoSign("x")), (["drop a", "names"], 0, NoName("a")), (["?"], 0, BadText(0, 0)),
                                 (("", first), 0, BadText(0, 0)), ([first, "drop a", "drop a"], 2, NoName("a"))):
            with self.assertRaises(BadLine) as raised:
                replay(lines)
            self.assertEqual(told_error(raised.exception), told_error(BadLine(at, error)))
        for value in (None, 0, Shelf(), (), SAME, Desk):
            self.refuses(BadDesk("one"), parting, value, None)
            self.refuses(BadDesk("other"), parting, Desk(), value)
        self.refuses(BadBook("book"), grid_of, Desk())


if __name__ == "__main__":
    unittest.main()
