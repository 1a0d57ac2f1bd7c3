"""Plans and cuts: whether kept answers of a lot settle a word."""

from netkeep.bridging import (
    bridges_in,
    fits_cut,
    fits_plan,
    joined,
    least_cut,
    least_plan,
    most_cut,
    settles,
    steps_from,
)
from netkeep.checks import need_word
from netkeep.errors import InvalidPlace
from netkeep.masks import bits
from netkeep.ties import is_below


def bridges(lot, word):
    """The sorted list of the bridges."""
    need_word(word)
    return bridges_in(lot.words(), word)


def classes(lot, word):
    """The sorted list of the sorted lists of all places that are joined to one."""
    need_word(word)
    masks = {joined(lot.words(), word, place): True for place in range(len(word) + 1)}
    return sorted([bits(mask) for mask in masks])


def steps_at(lot, word, place):
    """The sorted list of all steps from the place."""
    need_word(word)
    if not is_below(place, len(word) + 1):
        raise InvalidPlace(place)
    return steps_from(lot.words(), word, place)


def is_settled(lot, word):
    """Whether the lot settles the word."""
    need_word(word)
    return settles(lot.words(), word)


def plan(lot, word):
    """Of the plans with the fewest steps the least list; None if there is none."""
    need_word(word)
    return least_plan(lot.words(), word)


def is_plan(lot, word, value):
    """Whether any value is a plan of the word."""
    need_word(word)
    return fits_plan(lot.words(), word, value)


def cut(lot, word):
    """The cut of the fewest places; None if there is none."""
    need_word(word)
    return least_cut(lot.words(), word)


def greatest_cut(lot, word):
    """The cut of the most places; None if there is none."""
    need_word(word)
    return most_cut(lot.words(), word)


def is_cut(lot, word, value):
    """Whether any value is a cut of the word."""
    need_word(word)
    return fits_cut(lot.words(), word, value)
