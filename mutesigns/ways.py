"""Heard words, and the two ways in which they are written with signs for syllables."""

from mutesigns.checks import LETTERS, is_one_of
from mutesigns.errors import BadHeard, BadValue, Misfit

VOWELS = "aeiou"
WAYS = ("drop", "next")
MOST_LETTERS = 12


def is_heard(value):
    """Whether it is a heard word: a string of 1 to 12 small letters."""
    if not isinstance(value, str) or not 1 <= len(value) <= MOST_LETTERS:
        return False
    return all([letter in LETTERS for letter in value])


def is_value(value):
    """Whether it is a value: a vowel, or a consonant and a vowel behind it."""
    if not is_heard(value) or len(value) > 2 or value[-1] not in VOWELS:
        return False
    return len(value) == 1 or value[0] not in VOWELS


def check_heard(heard):
    """Raises BadHeard for what is no heard word."""
    if not is_heard(heard):
        raise BadHeard("heard")


def syllables(heard, way):
    """The values that the way makes of the heard word, in a row."""
    check_heard(heard)
    if not is_one_of(way, WAYS):
        raise BadHeard("way")
    found = []
    for at, letter in enumerate(heard):
        if letter in VOWELS:
            is_led = at > 0 and heard[at - 1] not in VOWELS
            found.append(heard[at - 1] + letter if is_led else letter)
        elif way == "next":
            behind = [vowel for vowel in heard[at + 1:] if vowel in VOWELS]
            if behind and heard[at + 1] not in VOWELS:
                found.append(letter + behind[0])
    return tuple(found)


def consonant_of(value):
    """The consonant of a value, the empty string for a vowel alone."""
    _check_value(value)
    return value[:-1]


def vowel_of(value):
    """The vowel of a value."""
    _check_value(value)
    return value[-1]


def _check_value(value):
    """Raises BadValue for what is no value."""
    if not is_value(value):
        raise BadValue("value")


def exchanged(heard, one, other):
    """The heard word with these letters, two vowels or two consonants, exchanged."""
    check_heard(heard)
    if not _is_letter(one):
        raise BadHeard("one")
    if not _is_letter(other):
        raise BadHeard("other")
    if (one in VOWELS) != (other in VOWELS):
        raise Misfit("letters")
    letters = {one: other, other: one}
    return "".join([letters.get(letter, letter) for letter in heard])


def _is_letter(value):
    """Whether it is a small letter."""
    return is_heard(value) and len(value) == 1
