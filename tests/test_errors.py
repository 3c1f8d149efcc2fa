"""The errors: made by place and by name, with their fields as they were passed."""

import unittest

from mutesigns import errors
from mutesigns.errors import Missing, Nothing, SignError

FIELDS = {
    **{name: ("part",) for name in (
        "BadSide", "BadSaying", "BadFact", "BadBook", "BadGrid", "BadWord", "BadSheet", "BadCutting", "BadTies",
        "BadHeard", "BadValue", "BadNaming", "BadTurning", "BadNumber", "BadPaper", "BadDesk", "Misfit")},
    **{name: ("value",) for name in ("Missing", "NoSign", "NoFact", "NoStem", "NoEnding", "NoName", "Twice")},
    "Impossible": ("paper",), "TooMany": ("what", "most"), "Nothing": (), "BadText": ("line", "item"),
    "BadLine": ("line", "error"),
}
BELOW_MISSING = {"NoSign", "NoFact", "NoStem", "NoEnding", "NoName"}
ANY_VALUES = [None, True, 0, -1, 10 ** 5000, "", "row", ["a", ["b"]], ("a",), {"a": []}, {1}, 1.5, object(), ValueError("x")]


class Errors(unittest.TestCase):
    def test_just_these(self):
        found = {name for name, value in vars(errors).items() if isinstance(value, type)}
        self.assertEqual(found, set(FIELDS) | {"SignError"})

    def test_bases(self):
        self.assertEqual(SignError.__bases__, (ValueError,))
        for name in FIELDS:
            shape = getattr(errors, name)
            base = Missing if name in BELOW_MISSING else SignError
            self.assertEqual((name, shape.__bases__), (name, (base,)))
            self.assertTrue(issubclass(shape, ValueError))

    def test_fields(self):
        for name, fields in FIELDS.items():
            shape = getattr(errors, name)
            for value in ANY_VALUES:
                given = {field: [value, at] for at, field in enumerate(fields)}
                for error in (shape(*given.values()), shape(**given)):
                    self.assertEqual(set(vars(error)), set(fields))
                    for field in fields:
                        self.assertIs(getattr(error, field), given[field])
                if fields:
                    error = shape(*[value for _ in fields])
                    self.assertTrue(all(getattr(error, field) is value for field in fields))

    def test_raised(self):
        with self.assertRaises(ValueError):
            raise Nothing()
        for name in BELOW_MISSING:
            with self.assertRaises(Missing) as caught:
                raise getattr(errors, name)(value=["x"])
            self.assertEqual(caught.exception.value, ["x"])


if __name__ == "__main__":
    unittest.main()
