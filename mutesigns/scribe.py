"""A scribe writes words off a grid; what can be seen in words of this."""

from mutesigns.checks import MOST_IN_WORD, check_many, check_signs, is_list, is_name, is_word
from mutesigns.errors import BadWord
from mutesigns.grids import check_grid
from mutesigns.sheets import Sheet

MOST_IN_AFFIX = 5
MOST_WORDS = 8


def written(grid, stems, endings):
    """The Sheet of the scribe: stems are told by a body and a sign, endings by a sign and a tail."""
    check_grid(grid)
    if not _is_table(stems, 0):
        raise BadWord("stems")
    if not _is_table(endings, 1):
        raise BadWord("endings")
    for body, sign in stems.values():
        check_signs([*body, sign], grid.signs)
    for sign, tail in endings.values():
        check_signs([sign, *tail], grid.signs)
    cells = [[_word_off(grid, stem, ending) for ending in endings.values()] for stem in stems.values()]
    return Sheet(list(stems), list(endings), cells)


def _is_table(value, at):
    """Whether it is a dict from one or more names to pairs, with a body or tail at this place, a sign at the other."""
    if not isinstance(value, dict) or len(value) == 0 or not all([is_name(name) for name in value]):
        return False
    return all([_is_told(told, at) for told in value.values()])


def _is_told(value, at):
    """Whether it is a pair with a body or tail at this place, no sign or up to five, and a sign at the other."""
    if not is_list(value) or len(value) != 2 or not is_name(value[1 - at]):
        return False
    return is_list(value[at]) and len(value[at]) <= MOST_IN_AFFIX and all([is_name(sign) for sign in value[at]])


def _word_off(grid, stem, ending):
    """The word of a stem and an ending, None for a gap."""
    body, begin = stem
    end, tail = ending
    place = (grid.place(begin)[0], grid.place(end)[1])
    standing = [sign for sign in grid.signs if grid.place(sign) == place]
    word = [*body, *standing, *tail]
    return word if standing and len(word) <= MOST_IN_WORD else None


def squares(words):
    """All squares (w, x, y, z, body) of the words, ascending, w less than x, y and z."""
    if not is_list(words) or not all([is_word(word) for word in words]):
        raise BadWord("words")
    check_many("words", len(words), MOST_WORDS)
    told = [tuple(word) for word in words]
    found = []
    for w in range(len(told)):
        for body in range(len(told[w])):
            found = found + [(w, x, y, z, body) for x, y, z in _squares_with(told, w, body)]
    return tuple(sorted(found))


def _squares_with(words, w, body):
    """All (x, y, z) of the squares of words with this first one, whose body has so many signs."""
    head, tail = words[w][:body], words[w][body + 1:]
    others = range(w + 1, len(words))
    mates = [x for x in others if _begins(words[x], head) and words[x][body + 1:] != tail]
    found = []
    for y in others:
        if _ends(words[y], tail) and _head_of(words[y], tail) != head:
            ahead = _head_of(words[y], tail)
            for x in mates:
                behind = words[x][body + 1:]
                left = [z for z in others if x != y and z not in (x, y)]
                found = found + [(x, y, z) for z in left if _is_of(words[z], ahead, behind)]
    return found


def _begins(word, head):
    """Whether a word begins with this body and a seam."""
    return len(word) > len(head) and word[:len(head)] == head


def _ends(word, tail):
    """Whether a word ends with a seam and this tail."""
    return len(word) > len(tail) and word[len(word) - len(tail):] == tail


def _head_of(word, tail):
    """The body of a word that ends with a seam and this tail."""
    return word[:len(word) - len(tail) - 1]


def _is_of(word, head, tail):
    """Whether a word is this body, a seam and this tail."""
    return len(word) == len(head) + 1 + len(tail) and _begins(word, head) and _ends(word, tail)
