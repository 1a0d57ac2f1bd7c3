"""Twins: stores with the same kept answers and unlike ones of a word."""

from netkeep.answers import answer
from netkeep.bridging import fits_cut, least_cut, settles
from netkeep.checks import need_telling, need_word
from netkeep.errors import InvalidCut, OtherNodes, Settled
from netkeep.store import Store


def twins(lot, word, cut=None):
    """The plain and the crossed twin of a cut, of the one of the fewest places for None."""
    need_word(word)
    words = lot.words()
    if settles(words, word):
        raise Settled(word)
    if cut is None:
        return twins_of(word, least_cut(words, word))
    if not fits_cut(words, word, cut):
        raise InvalidCut(cut)
    return twins_of(word, cut)


def twins_of(word, places):
    """The plain and the crossed twin of a cut of the word."""
    plain = []
    crossed = []
    for place, letter in enumerate(word):
        one, other = 2 * place + 2, 2 * place + 3
        plain.extend([(2 * place, letter, one), (2 * place + 1, letter, other)])
        if (place in places) != (place + 1 in places):
            one, other = other, one
        crossed.extend([(2 * place, letter, one), (2 * place + 1, letter, other)])
    nodes = 2 * len(word) + 2
    return Store(nodes, plain), Store(nodes, crossed)


def is_parting(lot, word, value, telling):
    """Whether any value is a parting of the word by the lot."""
    need_word(word)
    need_telling(telling)
    if not isinstance(value, tuple) or len(value) != 2:
        return False
    one, other = value
    if not isinstance(one, Store) or not isinstance(other, Store) or one.nodes != other.nodes:
        return False
    if first_unlike(lot.words(), one, other, telling) is not None:
        return False
    return answer(one, word, telling) != answer(other, word, telling)


def first_unlike(words, one, other, telling):
    """The first of the words whose answers in two stores are unlike; None without one."""
    for word in words:
        if answer(one, word, telling) != answer(other, word, telling):
            return word
    return None


def first_apart(one, other, word, telling):
    """The least pair at which the answers of the word in two stores are unlike; None without one."""
    need_word(word)
    need_telling(telling)
    _need_as_many(one, other)
    first, second = answer(one, word, telling), answer(other, word, telling)
    if telling == "whether":
        unlike = [pair for pair in first if pair not in second] + [pair for pair in second if pair not in first]
    else:
        unlike = [(x, y) for x in range(one.nodes) for y in range(one.nodes) if first[x][y] != second[x][y]]
    return min(unlike, default=None)


def unlike_words(lot, one, other, telling):
    """The list of the words of the lot whose answers in two stores are unlike."""
    need_telling(telling)
    _need_as_many(one, other)
    return [word for word in lot.words() if answer(one, word, telling) != answer(other, word, telling)]


def _need_as_many(one, other):
    if one.nodes != other.nodes:
        raise OtherNodes(one.nodes, other.nodes)
