"""The told stores of a gap, which go apart by one tie."""

from netkeep.bridging import least_cut
from netkeep.store import Store
from netkeep.twins import twins_of


def told_apart(words, letter, gap):
    """The told stores, and the tie that parts them, of a gap of these words for the letter."""
    word, begin, end = gap
    stretch = word[begin:end]
    plain, crossed = twins_of(stretch, least_cut(words, stretch))
    first, second = _lone_rows(word, begin, end, plain.nodes)
    x = first[-1] if first else 2 * len(stretch)
    y = second[0] if second else 0
    more = _row_ties(word[:max(0, begin - 1)], first) + _row_ties(word[end + 1:], second)
    nodes = max([plain.nodes - 1] + first + second) + 1
    return Store(nodes, plain.ties() + more), Store(nodes, crossed.ties() + more), (x, letter, y)


def _lone_rows(word, begin, end, fresh):
    """The nodes of both lone rows, of each in sequence, empty for no row; fresh nodes have numbers from there on."""
    first = []
    second = []
    if begin > 0:
        first = list(range(fresh, fresh + begin))
        if end < len(word):
            first[-1] = 2 * (end - begin)
    if end < len(word):
        fresh = fresh + max(0, begin - 1)
        second = list(range(fresh, fresh + len(word) - end))
        if begin > 0:
            second = [0] + second[:-1]
    return first, second


def _row_ties(letters, nodes):
    return [(nodes[place], letter, nodes[place + 1]) for place, letter in enumerate(letters)]
