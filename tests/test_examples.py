"""The examples of the interface, as printed: each name is made by the examples ahead of it."""

import importlib
import pathlib
import unittest

from mutesigns.errors import SignError
from test_interface import CLASSES, FUNCTIONS

EXAMPLES = pathlib.Path(__file__).with_name("examples.txt")


def all_names():
    """All functions and classes of the interface."""
    return {name: getattr(importlib.import_module(f"mutesigns.{file}"), name)
            for listed in (FUNCTIONS, CLASSES) for file, names in listed.items() for name in names}


def examples():
    """The triples (file, what is told, what is printed, None if nothing is)."""
    found = []
    file = None
    for line in EXAMPLES.read_text().splitlines():
        if line.startswith("## "):
            file = line[3:]
        elif line.startswith(">>> "):
            found.append([file, line[4:], None])
        else:
            found[-1][2] = line
    return found


class Examples(unittest.TestCase):
    def test_examples(self):
        names = {}
        ahead = None
        self.assertGreater(len(examples()), 0)
        for file, told, printed in examples():
            with self.subTest(file=file, told=told):
                if file != ahead:
                    names.update(all_names())
                ahead = file
                self.check(names, told, printed)

    def check(self, names, told, printed):
        if printed is None:
            exec(told, names)
        elif printed.startswith("raises "):
            error = eval(printed[len("raises "):], names)
            with self.assertRaises(type(error)) as caught:
                eval(told, names)
            self.assertEqual(vars(caught.exception), vars(error))
            self.assertIsInstance(error, SignError)
        else:
            self.assertEqual(repr(eval(told, names)), repr(eval(printed, {})))


if __name__ == "__main__":
    unittest.main()
