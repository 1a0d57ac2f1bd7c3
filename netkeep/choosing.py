"""Choices of words that have a price: all of them, in sequence, and the cheapest one."""

from netkeep.masks import bits
from netkeep.words import by_length


def some_of(words):
    """All lists of some of the words, each sorted: shorter ones first, of one length as their words come."""
    words = by_length(words)
    # Of sorted words the positions compare as the words do.
    choices = sorted([bits(mask) for mask in range(1 << len(words))], key=lambda choice: (len(choice), choice))
    return [[words[at] for at in choice] for choice in choices]


def price_of(prices, words):
    """The price of the words together."""
    return sum([prices[word] for word in words])


def cheapest_of(prices, choices):
    """Of choices in their sequence the first one with the least price; None if there is none."""
    best = None
    for choice in choices:
        if best is None or price_of(prices, choice) < price_of(prices, best):
            best = choice
    return best
