"""Papers tell an answer and what shows it; denials are the papers that say no."""


def fixed(value):
    """The value with each list in it as a tuple, all the way in through lists and tuples."""
    if isinstance(value, (list, tuple)):
        return tuple([fixed(part) for part in value])
    return value


def are_equal_papers(one, other):
    """Whether both are of one class, with equal kind words and equal parts."""
    return type(one) is type(other) and one.kind == other.kind and one.parts == other.parts


class Paper:
    """An answer, told by a kind word and parts."""

    def __init__(self, kind, *parts):
        self.kind = kind
        self.parts = fixed(parts)

    def __bool__(self):
        return True

    def __eq__(self, other):
        return are_equal_papers(self, other)


class Denial(Paper):
    """A paper that says no; so it is false."""

    def __init__(self, kind, *parts):
        super().__init__(kind, *parts)

    def __bool__(self):
        return False

    def __eq__(self, other):
        return are_equal_papers(self, other)
