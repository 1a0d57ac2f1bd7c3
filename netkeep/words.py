"""Integers, letters and words, and the sequence in which words come."""

from netkeep.errors import InvalidWords

LETTERS = "abcdef"
LONGEST_WORD = 12
LONGEST_NAME = 8


def is_integer(value):
    """Whether it is an int that is no bool."""
    return isinstance(value, int) and not isinstance(value, bool)


def is_count(value):
    """Whether it is an integer that is at least 0."""
    return is_integer(value) and value >= 0


def is_letter(value):
    """Whether it is one of the letters a to f."""
    return isinstance(value, str) and len(value) == 1 and value in LETTERS


def is_word(value):
    """Whether it is a string of one to twelve letters."""
    if not isinstance(value, str) or not 1 <= len(value) <= LONGEST_WORD:
        return False
    return all([is_letter(sign) for sign in value])


def is_name(value):
    """Whether it is a string of one to eight signs from a to z."""
    if not isinstance(value, str) or not 1 <= len(value) <= LONGEST_NAME:
        return False
    return all(["a" <= sign <= "z" for sign in value])


def in_sequence(words):
    """The words sorted by their length first, then by their letters."""
    if not isinstance(words, (list, tuple)):
        raise InvalidWords(None)
    for position, word in enumerate(words):
        if not is_word(word):
            raise InvalidWords(position)
    return by_length(words)


def by_length(strings):
    """Some strings, sorted by their length first, those of one length as Python compares them."""
    return sorted(strings, key=lambda string: (len(string), string))
