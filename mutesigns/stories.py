"""Stories: the deed lines that a desk was told."""

from mutesigns.checks import is_list
from mutesigns.desk import Desk
from mutesigns.desk_lines import is_deed
from mutesigns.errors import BadDesk, BadLine, BadText, SignError


def replay(lines):
    """A new Desk that is told these deed lines."""
    if not is_list(lines) or not all([isinstance(line, str) for line in lines]):
        raise BadDesk("lines")
    desk = Desk()
    for number, line in enumerate(lines):
        try:
            _tell_deed(desk, line)
        except SignError as error:
            raise BadLine(number, error) from error
    return desk


def _tell_deed(desk, line):
    """Tells a desk a deed line; an ask line, which the desk would answer, is refused."""
    if not is_deed(line):
        raise BadText(0, 0)
    desk(line)


def parting(one, other):
    """How many lines the stories of two Desks begin with alike."""
    if not isinstance(one, Desk):
        raise BadDesk("one")
    if not isinstance(other, Desk):
        raise BadDesk("other")
    many = 0
    for mine, its in zip(one.story, other.story):
        if mine != its:
            return many
        many += 1
    return many
