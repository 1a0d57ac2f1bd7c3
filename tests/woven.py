"""What the tests of sessions share: sessions as the random source tells, and slow, plain ways to run them."""

import itertools

from netkeep.store import Store
from netkeep.weaving import Sessions
from support import all_walks

WORDS = ("a", "b", "ab", "ba", "aba", "aa")


def some_sessions(rng, most=3, longest=3, ties=None, kinds=("ask", "put", "strike")):
    """Sessions on two nodes, as the random source tells."""
    ties = ties or [(x, letter, y) for x in range(2) for letter in "ab" for y in range(2)]

    def line():
        kind = rng.choice(kinds)
        return (kind, rng.choice(WORDS) if kind == "ask" else rng.choice(ties))

    return Sessions(2, [[line() for _ in range(rng.randint(1, longest))] for _ in range(rng.randint(1, most))])


def slow_answer(nodes, ties, word):
    """The answer of a word, walk by walk."""
    return sorted({(walk[0], walk[-1]) for walk in all_walks(nodes, ties, word)})


def slow_course(sessions, nodes, ties, weaving):
    """What each ask hears, and the ties at the end; None if a line comes to more than 400."""
    left = [list(enumerate(program)) for program in sessions.programs()]
    now, hears = set(ties), {}
    for number in weaving:
        at, (kind, worth) = left[number].pop(0)
        if kind == "ask":
            hears[number, at] = slow_answer(nodes, now, worth)
        else:
            now = now | {worth} if kind == "put" else now - {worth}
        if len(now) > 400:
            return None
    return hears, now


def slow_order(sessions, order):
    """The weaving of an order."""
    return tuple(number for number in order for _ in sessions.programs()[number])


def slow_orders(sessions):
    return sorted(itertools.permutations(range(len(sessions.programs()))))


def slow_explains_in(sessions, nodes, ties, weaving, order):
    """Whether an order explains a weaving in one store."""
    one = slow_course(sessions, nodes, ties, weaving)
    return one == slow_course(sessions, nodes, ties, slow_order(sessions, order))


def tells(sessions, there):
    """Stores with just these of the touched ties that show, together, whatever a weaving tells: each ask's word is
    laid through each touched tie, over new nodes."""
    yield sessions.nodes, set(there)
    for number, program in enumerate(sessions.programs()):
        for kind, word in program:
            for x, letter, y in sessions.touched() if kind == "ask" else ():
                for at in [at for at, other in enumerate(word) if other == letter]:
                    fresh = iter(range(sessions.nodes, sessions.nodes + len(word)))
                    way = [next(fresh) for _ in range(at)] + [x, y] + [next(fresh) for _ in word[at + 1:]]
                    ties = {(way[k], word[k], way[k + 1]) for k in range(len(word)) if k != at}
                    yield sessions.nodes + len(word) - 1, set(there) | ties


def slow_explains_with(sessions, weaving, order, there):
    """Whether an order explains a weaving in all stores with just these of the touched ties."""
    return all(slow_explains_in(sessions, nodes, ties, weaving, order) for nodes, ties in tells(sessions, there))


def touched_sets(sessions):
    """All sets of touched ties, as sorted tuples, sorted."""
    touched = sessions.touched()
    return sorted(some for many in range(len(touched) + 1) for some in itertools.combinations(touched, many))


def slow_explains(sessions, weaving, order):
    """Whether an order explains a weaving in all stores."""
    return all(slow_explains_with(sessions, weaving, order, there) for there in touched_sets(sessions))


def slow_is_missed(sessions, weaving):
    return not any(slow_explains(sessions, weaving, order) for order in slow_orders(sessions))


def slow_is_miss(sessions, weaving, order, value):
    """Whether a value is a miss, as the point says it."""
    if type(value) is not tuple or len(value) != 2 or type(value[1]) is not Store or value[1].nodes < sessions.nodes:
        return False
    spot, store = value
    if spot is not None:
        if type(spot) is not tuple or len(spot) != 2 or any(type(part) is not int for part in spot):
            return False
        if spot not in sessions.asks():
            return False
    one = slow_course(sessions, store.nodes, store.ties(), weaving)
    other = slow_course(sessions, store.nodes, store.ties(), slow_order(sessions, order))
    if one is None or other is None:
        return False
    return one[1] != other[1] if spot is None else one[0][spot] != other[0][spot]
