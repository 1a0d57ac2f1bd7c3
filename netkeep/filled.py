"""Stores filled by rules: what is wanted, what comes in with which round, and what can be struck."""

from netkeep.checks import need_tie
from netkeep.errors import InvalidNumber
from netkeep.filling import Filling, filling_of, need_few, need_rules, trace_in
from netkeep.store import Store
from netkeep.ties import is_below
from netkeep.traces import Traces, is_tree, leaves_of, traced

MOST_STRUCK = 2


def obeys(store, rules):
    """Whether the store obeys each of the rules."""
    return wanted(store, rules) == []


def wanted(store, rules):
    """The sorted list of the wanted ties."""
    _need(store, rules)
    return sorted(Filling(store.nodes, store.ties(), rules).found_now())


def filled(store, rules):
    """The filled store."""
    return Store(store.nodes, list(_filling(store, rules).rounds))


def put_in(store, rules, tie):
    """The sorted list of the ties that the filled store has with the tie put in, and lacks otherwise."""
    _need_goal(store, rules, tie)
    plain = _filling(store, rules).rounds
    if tie in plain:
        return []
    put = filling_of(store.nodes, store.ties() + [tie], rules).rounds
    return sorted([other for other in put if other not in plain])


def rounds(store, rules):
    """How many rounds put something in."""
    return max([0] + list(_filling(store, rules).rounds.values()))


def round_of(store, rules, tie):
    """The number of the round that puts the tie in, 0 for a tie of the store; None if none does."""
    _need_goal(store, rules, tie)
    return filling_of(store.nodes, store.ties(), rules, tie).rounds.get(tie)


def trace(store, rules, tie):
    """A trace of the tie in which no two lines have one tie; None if there is none."""
    _need_goal(store, rules, tie)
    return trace_in(store.nodes, store.ties(), rules, tie)


def is_trace(store, rules, tie, value):
    """Whether any value is a trace of the tie."""
    _need_goal(store, rules, tie)
    found = traced(store.nodes, store.ties(), rules, value)
    return found is not None and found[-1:] == [tie]


def is_denial(store, rules, tie, value):
    """Whether any value is a denial of the tie."""
    _need_goal(store, rules, tie)
    if not isinstance(value, Store) or value.nodes != store.nodes or tie in value:
        return False
    return all([other in value for other in store.ties()]) and obeys(value, rules)


def strikes(store, rules, tie):
    """The least of the shortest lists of at most two ties that are struck for the tie; None if two do not do."""
    _need_goal(store, rules, tie)
    traces = Traces(store, rules, tie)
    lines = traces.without([])
    if lines is None:
        return []
    leaves = leaves_of(lines)
    first = traces.first_needed([], leaves)
    if first is not None:
        return [first]
    return _two_strikes(traces, leaves)


def strike_tree(store, rules, tie, number):
    """A strike tree of the tie against the number; None if there is none."""
    _need_number(store, rules, tie, number)
    return Traces(store, rules, tie).tree([], number)


def is_strike_tree(store, rules, tie, number, value):
    """Whether any value is a strike tree of the tie against the number."""
    _need_number(store, rules, tie, number)
    return is_tree(store.nodes, store.ties(), rules, tie, number, value)


def _two_strikes(traces, leaves):
    """The least pair of ties that are struck: one is a leaf, the other one a leaf of a trace without it."""
    best = None
    for leaf in leaves:
        some = leaves_of(traces.without([leaf]))
        if best is not None:
            some = [other for other in some if sorted([leaf, other]) < best]
        other = traces.first_needed([leaf], some)
        if other is not None:
            best = sorted([leaf, other])
    return best


def _filling(store, rules):
    _need(store, rules)
    return filling_of(store.nodes, store.ties(), rules)


def _need(store, rules):
    need_rules(rules)
    need_few(rules)


def _need_goal(store, rules, tie):
    need_rules(rules)
    need_tie(tie, store.nodes)
    need_few(rules)


def _need_number(store, rules, tie, number):
    need_rules(rules)
    need_tie(tie, store.nodes)
    if not is_below(number, MOST_STRUCK + 1):
        raise InvalidNumber(number)
    need_few(rules)
