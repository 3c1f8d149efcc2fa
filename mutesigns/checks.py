"""Whether any values are what they should be, and the checks that raise an error where they are not."""

from mutesigns.errors import BadSide, NoSign, TooMany, Twice

LETTERS = "abcdefghijklmnopqrstuvwxyz"
NAME_MARKS = "abcdefghijklmnopqrstuvwxyz0123456789"
MOST_MARKS = 12
MOST_IN_WORD = 6
SIDES = ("column", "row")


def is_integer(value):
    """Whether it is an integer; True and False are none."""
    return isinstance(value, int) and not isinstance(value, bool)


def is_within(value, least, most):
    """Whether it is an integer from least to most, each None for no bound."""
    if not is_integer(value):
        return False
    return (least is None or value >= least) and (most is None or value <= most)


def is_name(value):
    """Whether it is a name."""
    if not isinstance(value, str) or not 1 <= len(value) <= MOST_MARKS:
        return False
    return value[0] in LETTERS and all([mark in NAME_MARKS for mark in value])


def is_side(value):
    """Whether it is a side."""
    return is_one_of(value, SIDES)


def is_truth(value):
    """Whether it is True or False; 1 and 0 are neither."""
    return value is True or value is False


def is_list(value):
    """Whether it is a list or a tuple."""
    return isinstance(value, (list, tuple))


def are_names(value):
    """Whether it is a list or tuple of one or more names, perhaps equal ones."""
    return is_list(value) and len(value) > 0 and all([is_name(one) for one in value])


def is_word(value):
    """Whether it is a list or tuple of one to six names, perhaps equal ones."""
    return are_names(value) and len(value) <= MOST_IN_WORD


def is_numbers(value):
    """Whether it is a list or tuple of integers, perhaps of none."""
    return is_list(value) and all([is_integer(one) for one in value])


def is_renaming(value):
    """Whether it is a dict from names to names, no two of these equal."""
    if not isinstance(value, dict) or not all([is_name(sign) for sign in value]):
        return False
    names = list(value.values())
    return all([is_name(name) for name in names]) and again_at(names) is None


def renames_just(value, signs):
    """Whether it is a renaming of just these ascending signs."""
    return is_renaming(value) and sorted(value) == list(signs)


def again_at(values):
    """The index of the first value that equals one ahead of it, None if there is none."""
    seen = set()
    for at, value in enumerate(values):
        if value in seen:
            return at
        seen.add(value)
    return None


def is_one_of(value, strings):
    """Whether it is one of these strings."""
    return isinstance(value, str) and value in strings


def first_twice(values):
    """The first of the integers or strings that equals one ahead of it, None if there is none."""
    at = again_at(values)
    return None if at is None else values[at]


def is_just(value, told):
    """Whether any value is just what is told: strings, integers, truths, None, and tuples of these.

    So 1 is not taken for True, nor any object for what it says that it equals.
    """
    if isinstance(told, tuple):
        if not isinstance(value, tuple) or len(value) != len(told):
            return False
        return all([is_just(part, wanted) for part, wanted in zip(value, told)])
    if told is None:
        return value is None
    if is_truth(told):
        return is_truth(value) and value == told
    if is_integer(told):
        return is_integer(value) and value == told
    return isinstance(value, str) and value == told


def check_side(side):
    """Raises BadSide for what is no side."""
    if not is_side(side):
        raise BadSide("side")


def check_signs(values, signs):
    """Raises NoSign for the first value that is none of the signs."""
    for value in values:
        if not is_one_of(value, signs):
            raise NoSign(value)


def check_unlike(values):
    """Raises Twice for the first value that equals one ahead of it."""
    at = again_at(values)
    if at is not None:
        raise Twice(values[at])


def check_many(what, many, most):
    """Raises TooMany if there are more than most."""
    if many > most:
        raise TooMany(what, most)
