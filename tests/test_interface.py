"""The interface: which names each file defines, with which parameters, and which methods stand in each class."""

import importlib
import inspect
import unittest

PART_ERRORS = ["BadSide", "BadSaying", "BadFact", "BadBook", "BadGrid", "BadWord", "BadSheet", "BadCutting", "BadTies",
               "BadHeard", "BadValue", "BadNaming", "BadTurning", "BadNumber", "BadPaper", "BadDesk", "Misfit"]
VALUE_ERRORS = ["Missing", "NoSign", "NoFact", "NoStem", "NoEnding", "NoName", "Twice"]

FUNCTIONS = {
    "checks": {
        "is_integer": "(value)", "is_within": "(value, least, most)", "is_name": "(value)", "is_side": "(value)",
        "is_truth": "(value)", "is_word": "(value)", "is_numbers": "(value)", "first_twice": "(values)",
    },
    "papers": {"fixed": "(value)"},
    "facts": {"as_fact": "(value)"},
    "joins": {
        "lots_of": "(book, sayings, side)", "chain_of": "(book, sayings, side, one, other)",
    },
    "partings": {"parting_of": "(book, sayings, side, one, other)"},
}

CLASSES = {
    "errors": {
        **{name: {"__init__": "(self, part)"} for name in PART_ERRORS},
        **{name: {"__init__": "(self, value)"} for name in VALUE_ERRORS},
        "Impossible": {"__init__": "(self, paper)"}, "TooMany": {"__init__": "(self, what, most)"}, "Nothing": {},
        "BadText": {"__init__": "(self, line, item)"}, "BadLine": {"__init__": "(self, line, error)"},
    },
    "papers": {
        "Paper": {"__init__": "(self, kind, *parts)", "__eq__": "(self, other)"},
        "Denial": {"__init__": "(self, kind, *parts)", "__eq__": "(self, other)"},
    },
    "sayings": {
        "Saying": {
            "__init__": "(self, side, one, other, alike=True)", "contrary": "(self)", "crossed": "(self)",
            "renamed": "(self, names)", "read": "(text)", "__eq__": "(self, other)", "__str__": "(self)",
        },
    },
    "facts": {
        "Fact": {
            "__init__": "(self, sayings)", "crossed": "(self)", "renamed": "(self, names)", "read": "(text)",
            "__len__": "(self)", "__eq__": "(self, other)", "__str__": "(self)",
        },
    },
    "books": {
        "Book": {
            "__init__": "(self, signs, facts=(), most_rows=None, most_columns=None)", "with_fact": "(self, fact)",
            "without": "(self, numbers)", "with_sign": "(self, sign)",
            "bounded": "(self, most_rows, most_columns)", "with_book": "(self, other)", "crossed": "(self)",
            "renamed": "(self, names)", "read": "(text)", "__len__": "(self)", "__eq__": "(self, other)",
            "__str__": "(self)",
        },
    },
    "grids": {
        "Grid": {
            "__init__": "(self, signs, rows, columns)", "of": "(signs, places)", "place": "(self, sign)",
            "lots": "(self, side)", "are_alike": "(self, side, one, other)", "holds": "(self, saying)",
            "keeps_fact": "(self, fact)", "broken": "(self, book)", "keeps": "(self, book)", "sayings": "(self)",
            "crossed": "(self)", "renamed": "(self, names)", "read": "(text)", "__eq__": "(self, other)",
            "__str__": "(self)",
        },
    },
    "joins": {"Chain": {"__init__": "(self, signs)"}, "NoChain": {"__init__": "(self, signs)"}},
    "partings": {"Parting": {"__init__": "(self, mine, its, by)"}},
}


class Interface(unittest.TestCase):
    def test_functions(self):
        for file, functions in FUNCTIONS.items():
            module = importlib.import_module(f"mutesigns.{file}")
            for name, parameters in functions.items():
                with self.subTest(file=file, name=name):
                    function = getattr(module, name)
                    self.assertTrue(inspect.isfunction(function))
                    self.assertEqual(function.__module__, module.__name__)
                    self.assertEqual(str(inspect.signature(function)), parameters)

    def test_classes(self):
        for file, classes in CLASSES.items():
            module = importlib.import_module(f"mutesigns.{file}")
            for name, methods in classes.items():
                with self.subTest(file=file, name=name):
                    self.assertEqual(getattr(module, name).__module__, module.__name__)
                    self.check_methods(getattr(module, name), methods)

    def check_methods(self, shape, methods):
        for method, parameters in methods.items():
            self.assertIn(method, vars(shape))
            function = vars(shape)[method]
            function = getattr(function, "__func__", function)
            self.assertEqual((method, str(inspect.signature(function))), (method, parameters))


if __name__ == "__main__":
    unittest.main()
