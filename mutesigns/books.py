"""Books: the signs of a writing, the facts that were seen of them, and bounds for rows and columns."""

from mutesigns.checks import are_names, check_many, check_signs, check_unlike, is_list, is_name, is_numbers
from mutesigns.checks import is_within, renames_just
from mutesigns.errors import BadBook, BadFact, BadNumber, NoFact
from mutesigns.facts import MOST_IN_FACT, as_fact, fact_items, read_fact
from mutesigns.sayings import signs_told
from mutesigns.texts import Items, read_signs

MOST_SIGNS = 8
MOST_FACTS = 12
MOST_SAYINGS = 24
MOST_BOUND = 8


class Book:
    """Signs, the facts about them in the order told, and the most rows and columns that there may be."""

    def __init__(self, signs, facts=(), most_rows=None, most_columns=None):
        if not are_names(signs):
            raise BadBook("signs")
        check_unlike(signs)
        told = _facts_told(facts)
        for fact in told:
            check_signs(signs_told(fact.sayings), signs)
        _check_bound("most_rows", most_rows)
        _check_bound("most_columns", most_columns)
        check_many("signs", len(signs), MOST_SIGNS)
        check_many("facts", len(told), MOST_FACTS)
        check_many("sayings", sum([len(fact) for fact in told]), MOST_SAYINGS)
        self.signs = tuple(sorted(signs))
        self.facts = told
        self.most_rows = most_rows
        self.most_columns = most_columns
        self.single = tuple([fact.sayings[0] for fact in told if fact.is_single])
        self.is_plain = len(self.single) == len(told) and most_rows is None and most_columns is None

    def with_fact(self, fact):
        """The Book with this fact behind."""
        if as_fact(fact) is None:
            raise BadFact("fact")
        return Book(self.signs, [*self.facts, fact], self.most_rows, self.most_columns)

    def without(self, numbers):
        """The Book without the facts with these numbers."""
        check_fact_numbers(self, numbers)
        left = [fact for number, fact in enumerate(self.facts) if number not in numbers]
        return Book(self.signs, left, self.most_rows, self.most_columns)

    def with_sign(self, sign):
        """The Book with one sign more."""
        if not is_name(sign):
            raise BadBook("sign")
        return Book([*self.signs, sign], self.facts, self.most_rows, self.most_columns)

    def bounded(self, most_rows, most_columns):
        """The Book with these bounds in the place of its own."""
        return Book(self.signs, self.facts, most_rows, most_columns)

    def with_book(self, other):
        """The Book of the signs and the facts of both, these ones first, with the lesser bounds."""
        if not isinstance(other, Book):
            raise BadBook("other")
        most_rows = _lesser_bound(self.most_rows, other.most_rows)
        most_columns = _lesser_bound(self.most_columns, other.most_columns)
        return Book(sorted(set(self.signs + other.signs)), self.facts + other.facts, most_rows, most_columns)

    def crossed(self):
        """The Book with rows and columns exchanged."""
        return Book(self.signs, [fact.crossed() for fact in self.facts], self.most_columns, self.most_rows)

    def renamed(self, names):
        """The Book of the names of its signs; its facts keep their numbers."""
        if not renames_just(names, self.signs):
            raise BadBook("names")
        signs = [names[sign] for sign in self.signs]
        return Book(signs, [fact.renamed(names) for fact in self.facts], self.most_rows, self.most_columns)

    @staticmethod
    def read(text):
        """The Book of which this is the text."""
        items = Items(text)
        book = read_book(items)
        items.end()
        return book

    def __len__(self):
        return len(self.facts)

    def __eq__(self, other):
        return isinstance(other, Book) and _book_parts(self) == _book_parts(other)

    def __str__(self):
        return " ".join(book_items(self))


def check_book(book):
    """Raises BadBook for what is no Book."""
    if not isinstance(book, Book):
        raise BadBook("book")


def check_fact_numbers(book, numbers):
    """Raises BadNumber for what is no list of integers, NoFact, Twice for the first that is no number of a fact."""
    if not is_numbers(numbers):
        raise BadNumber("numbers")
    for number in numbers:
        if not 0 <= number < len(book.facts):
            raise NoFact(number)
    check_unlike(numbers)


def _facts_told(facts):
    """The tuple of the Facts that are passed, Sayings as the facts of them alone."""
    if not is_list(facts):
        raise BadFact("facts")
    told = tuple([as_fact(fact) for fact in facts])
    if any([fact is None for fact in told]):
        raise BadFact("facts")
    return told


def _check_bound(part, bound):
    """Raises BadNumber for what is neither None nor a bound that may be."""
    if bound is not None and not is_within(bound, 1, MOST_BOUND):
        raise BadNumber(part)


def _lesser_bound(one, other):
    """The lesser one of two bounds; a bound is less than none."""
    return min([bound for bound in (one, other) if bound is not None], default=None)


def _book_parts(book):
    """All that tells a book."""
    return (book.signs, book.facts, book.most_rows, book.most_columns)


def bound_item(bound):
    """The item of a bound."""
    return "-" if bound is None else str(bound)


def book_items(book):
    """The items of its text."""
    bounds = [bound_item(book.most_rows), bound_item(book.most_columns)]
    told = [item for fact in book.facts for item in ["/"] + fact_items(fact)]
    return [*book.signs, ":", *bounds, ":"] + (told[1:] if told else ["-"])


def read_book(items):
    """Reads a Book, as far as an item that cannot belong to it; whoever reads on refuses this."""
    signs = read_signs(items, MOST_SIGNS)
    items.take_word(":")
    most_rows = read_bound(items)
    most_columns = read_bound(items)
    items.take_word(":")
    return Book(signs, _read_facts(items, signs), most_rows, most_columns)


def read_bound(items):
    """Reads a bound, `-` for none."""
    if items.ahead() == "-":
        items.take_word("-")
        return None
    return items.take_integer(1, MOST_BOUND)


def _read_facts(items, signs):
    """Reads the facts of a book that has these signs, or `-` for none."""
    if items.ahead() == "-":
        items.take_word("-")
        return []
    facts = [read_fact(items, signs, MOST_IN_FACT)]
    room = MOST_SAYINGS - len(facts[0])
    while items.ahead() == "/" and len(facts) < MOST_FACTS and room > 0:
        items.take_word("/")
        fact = read_fact(items, signs, min(room, MOST_IN_FACT))
        facts.append(fact)
        room -= len(fact)
    return facts
