"""The errors of the package: each keeps its fields, as they were passed, in attributes of their names."""


class SignError(ValueError):
    """The base of all errors of the package."""


class BadSide(SignError):
    """What should be a side is none."""

    def __init__(self, part):
        self.part = part


class BadSaying(SignError):
    """What should be a saying, or a part of one, is none."""

    def __init__(self, part):
        self.part = part


class BadFact(SignError):
    """What should be a fact, or a part of one, is none."""

    def __init__(self, part):
        self.part = part


class BadBook(SignError):
    """What should be a book, or a part of one, is none."""

    def __init__(self, part):
        self.part = part


class BadGrid(SignError):
    """What should be a grid, or a part of one, is none."""

    def __init__(self, part):
        self.part = part


class BadWord(SignError):
    """What should be a word of signs is none."""

    def __init__(self, part):
        self.part = part


class BadSheet(SignError):
    """What should be a sheet, or a part of one, is none."""

    def __init__(self, part):
        self.part = part


class BadCutting(SignError):
    """What should be a cutting, or a part of one, is none."""

    def __init__(self, part):
        self.part = part


class BadTies(SignError):
    """What should be ties, or a part of them, are none."""

    def __init__(self, part):
        self.part = part


class BadHeard(SignError):
    """What should be a heard word, its way or a letter of it is none."""

    def __init__(self, part):
        self.part = part


class BadValue(SignError):
    """What should be a value, or values of signs, is none."""

    def __init__(self, part):
        self.part = part


class BadNaming(SignError):
    """What should be a naming, or a list of them, is none."""

    def __init__(self, part):
        self.part = part


class BadTurning(SignError):
    """What should be a turning, or a part of one, is none."""

    def __init__(self, part):
        self.part = part


class BadNumber(SignError):
    """What should be a number within its bounds is none."""

    def __init__(self, part):
        self.part = part


class BadPaper(SignError):
    """What should be a class of papers is none."""

    def __init__(self, part):
        self.part = part


class BadDesk(SignError):
    """What should be a desk, or a part of one, is none."""

    def __init__(self, part):
        self.part = part


class Misfit(SignError):
    """This part does not fit what it must fit."""

    def __init__(self, part):
        self.part = part


class Missing(SignError):
    """A value that is none here; raised only as one of those below."""

    def __init__(self, value):
        self.value = value


class NoSign(Missing):
    """No sign that stands here."""

    def __init__(self, value):
        self.value = value


class NoFact(Missing):
    """No number of a fact of the book."""

    def __init__(self, value):
        self.value = value


class NoStem(Missing):
    """No stem of the sheet."""

    def __init__(self, value):
        self.value = value


class NoEnding(Missing):
    """No ending of the sheet."""

    def __init__(self, value):
        self.value = value


class NoName(Missing):
    """No name of something that is kept."""

    def __init__(self, value):
        self.value = value


class Twice(SignError):
    """A value that stands there already."""

    def __init__(self, value):
        self.value = value


class Impossible(SignError):
    """It cannot be, as the paper, a denial, shows."""

    def __init__(self, paper):
        self.paper = paper


class TooMany(SignError):
    """There are more of these than the most that may be."""

    def __init__(self, what, most):
        self.what = what
        self.most = most


class Nothing(SignError):
    """There is nothing to take back, or to do again."""


class BadText(SignError):
    """A text that cannot stand from this item of this line on."""

    def __init__(self, line, item):
        self.line = line
        self.item = item


class BadLine(SignError):
    """A line told to a desk, and the error that was raised there."""

    def __init__(self, line, error):
        self.line = line
        self.error = error
