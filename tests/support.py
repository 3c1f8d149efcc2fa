"""What the tests share: how errors, their order and texts are tested."""

import unittest

from mutesigns.errors import BadText, SignError
from mutesigns.papers import Paper


def fields(error):
    """The fields of an error, a paper told by its class and its parts."""
    return {name: (type(value).__name__, value.kind, value.parts) if isinstance(value, Paper) else value
            for name, value in vars(error).items()}


class Case(unittest.TestCase):
    def refuses(self, error, call, *args, **named):
        """The call raises an error of just this class, with just these fields."""
        try:
            call(*args, **named)
        except SignError as raised:
            self.assertIs(type(raised), type(error))
            self.assertEqual(repr(fields(raised)), repr(fields(error)))
            self.assertEqual(vars(raised), vars(error))
        else:
            self.fail(f"{type(error).__name__} {vars(error)} is not raised")

    def refuses_in_order(self, call, right, faults):
        """Of any two faults, told as (error, changed arguments) in their order, the one ahead is raised."""
        call(**right)
        for at, (error, changed) in enumerate(faults):
            with self.subTest(error=vars(error)):
                self.refuses(error, call, **{**right, **changed})
            for _, behind in faults[at + 1:]:
                if not set(changed) & set(behind):
                    with self.subTest(error=vars(error), behind=behind):
                        self.refuses(error, call, **{**right, **changed, **behind})

    def reads(self, read, text, value):
        """The text is written, read, and refused at each item that is missing or spoiled."""
        self.assertEqual(str(value), text)
        self.assertEqual(read(text), value)
        self.assertEqual(str(read(text=text)), text)
        items = text.split(" ")
        for at in range(1, len(items)):
            self.reads_or_lacks(read, " ".join(items[:at]), at)
        for at in range(len(items)):
            for spoiled in ("", "?", "01", "+1", "Row", "a_b", "60\t", "not-row"):
                told = items[:at] + [spoiled] + items[at + 1:]
                self.refuses(BadText(0, at), read, " ".join(told))
        for more in ("", "a", "0", ":", "-"):
            self.refuses(BadText(0, len(items)), read, text + " " + more)

    def reads_or_lacks(self, read, text, many):
        """A text of so many items is one of a value, or an item is missing behind it."""
        try:
            self.assertEqual(str(read(text)), text)
        except BadText as error:
            self.assertEqual((error.line, error.item), (0, many))


class Same:
    """A value that says of itself that it equals each other one."""

    def __eq__(self, other):
        return True

    __hash__ = None


SAME = Same()
NO_LISTS = [None, 0, "ab", {"a": 1}, {"a"}, iter(["a"]), True]
NO_NAMES = [None, 0, 1, True, "", "1a", "A", "aB", "a b", "a-", "_a", "\u00e4", "a\u00b2", "a\n", "a" * 13, b"a", ["a"], ("a",), SAME]
NO_INTEGERS = [None, True, False, "1", 1.0, [1], (1,), SAME]
NO_SIDES = [None, "Row", "rows", "", "r", "row ", 0, ["row"], ("row", "column"), True, SAME]
