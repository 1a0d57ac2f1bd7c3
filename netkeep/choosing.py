"""Choices of what has a price: all of them, in sequence, and the cheapest one."""

from netkeep.masks import bits
from netkeep.words import by_length


def choices_of(many):
    """All rising lists of numbers below this one: shorter ones first, those of one length as Python compares them."""
    return sorted([bits(mask) for mask in range(1 << many)], key=lambda choice: (len(choice), choice))


def some_of(words):
    """All lists of some of the words, each sorted: shorter ones first, of one length as their words come."""
    words = by_length(words)
    # Of sorted words the positions compare as the words do.
    return [[words[at] for at in choice] for choice in choices_of(len(words))]


def price_of(prices, some):
    """The price together of some things that have one."""
    return sum([prices[one] for one in some])


def cheapest_of(prices, choices):
    """Of choices in their sequence the first one with the least price; None if there is none."""
    best = None
    for choice in choices:
        if best is None or price_of(prices, choice) < price_of(prices, best):
            best = choice
    return best
