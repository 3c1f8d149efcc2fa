"""The items of a text, read one behind the other: the first that cannot stand raises BadText."""

from mutesigns.checks import is_name, is_within, is_word
from mutesigns.errors import BadText

DIGITS = "0123456789"
MOST_DIGITS = 60


def integer_of(item):
    """The integer from 0 on that the item writes, None if it writes none."""
    if not 1 <= len(item) <= MOST_DIGITS or not all([mark in DIGITS for mark in item]):
        return None
    if item[0] == "0" and item != "0":
        return None
    return int(item)


def word_of(item):
    """The word that the item writes, its signs with `+` between, None if it writes none."""
    signs = tuple(item.split("+"))
    return signs if is_word(signs) else None


class Items:
    """The items of a text, and how many of them are read."""

    def __init__(self, text):
        if not isinstance(text, str):
            raise BadText(0, 0)
        self.texts = text.split(" ")
        self.at = 0

    def ahead(self):
        """The next item, None behind the last one."""
        return self.texts[self.at] if self.at < len(self.texts) else None

    def take(self, can_stand):
        """The next item, which is read by this, if it can stand."""
        if not can_stand:
            raise BadText(0, self.at)
        self.at += 1
        return self.texts[self.at - 1]

    def take_word(self, word):
        """Reads this very word."""
        return self.take(self.ahead() == word)

    def take_sign(self, behind, signs):
        """Reads a name that is greater than behind, one of the signs where these are not None."""
        item = self.ahead()
        return self.take(is_name(item) and item > behind and (signs is None or item in signs))

    def take_unlike(self, names):
        """Reads a name that is none of these."""
        item = self.ahead()
        return self.take(is_name(item) and item not in names)

    def take_signs(self):
        """Reads a word of signs."""
        item = self.ahead()
        word = None if item is None else word_of(item)
        self.take(word is not None)
        return word

    def take_integer(self, least, most):
        """Reads an integer from least to most."""
        item = self.ahead()
        number = None if item is None else integer_of(item)
        self.take(is_within(number, least, most))
        return number

    def refuse_last(self):
        """Refuses the last item that was read, where only the whole shows that it cannot stand."""
        raise BadText(0, self.at - 1)

    def end(self):
        """Refuses the next item, if there is one."""
        if self.ahead() is not None:
            raise BadText(0, self.at)


def read_signs(items, most):
    """Reads one or more ascending signs, at most so many, as far as the `:` behind them."""
    signs = [items.take_sign("", None)]
    while len(signs) < most and items.ahead() != ":":
        signs.append(items.take_sign(signs[-1], None))
    return signs
