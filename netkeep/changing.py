"""Changes of the parts of a net: what each of them makes of these, and its answer.

The parts are a dict: "store", "telling", "rules", a list, "lot", "tables", the kept answers, "late", a number,
"readers", a dict from names to lots, and "secrets", a sorted list. Nothing in it is ever changed: a change tells
another dict.
"""

from netkeep.bridging import settles
from netkeep.checks import MOST_SECRETS
from netkeep.errors import InvalidRule, TooMany, UnknownWord
from netkeep.faults import GivenAway, UnknownReader
from netkeep.filling import fits_rule, need_few, put_in_sequence
from netkeep.lots import Lot, kept_of
from netkeep.store import Store
from netkeep.upkeep import behind_put, behind_strike, keeps_up
from netkeep.words import by_length

MOST_READERS = 4


def first_parts(store, telling):
    """The parts of a net that has a store and nothing else."""
    return {
        "store": store,
        "telling": telling,
        "rules": [],
        "lot": Lot(),
        "tables": {},
        "late": 0,
        "readers": {},
        "secrets": [],
    }


def change(parts, first, told):
    """The parts behind the change with this first word, by what its other words tell, and its answer."""
    action = CHANGES[first]
    return action(parts, *told)


def _put(parts, x, letter, y):
    tie = (x, letter, y)
    store, done = parts["store"].put(tie)
    if not done:
        return parts, "idle"
    return _behind(parts, store, tie, True), "done"


def _strike(parts, x, letter, y):
    tie = (x, letter, y)
    store, done = parts["store"].strike(tie)
    if not done:
        return parts, "idle"
    return _behind(parts, store, tie, False), "done"


def _fill(parts):
    store = parts["store"]
    ties = put_in_sequence(store.nodes, store.ties(), parts["rules"], Store.MOST_TIES)
    for tie in ties:
        parts = _behind(parts, parts["store"] + tie, tie, True)
    return parts, str(len(ties))


def _rule(parts, word, letter):
    _need_rule((word, letter))
    if (word, letter) in parts["rules"]:
        return parts, "idle"
    rules = parts["rules"] + [(word, letter)]
    need_few(rules)
    return {**parts, "rules": rules}, "done"


def _unrule(parts, word, letter):
    _need_rule((word, letter))
    if (word, letter) not in parts["rules"]:
        return parts, "idle"
    return {**parts, "rules": [rule for rule in parts["rules"] if rule != (word, letter)]}, "done"


def _keep(parts, word):
    if word in parts["lot"]:
        return parts, "idle"
    return _fresh({**parts, "lot": parts["lot"] + word}), "done"


def _drop(parts, word):
    lot = parts["lot"] - word
    return {**parts, "lot": lot, "tables": {other: parts["tables"][other] for other in lot}}, "done"


def _refresh(parts):
    return _fresh(parts), str(parts["late"])


def _grant(parts, name, word):
    readers = parts["readers"]
    lot = readers.get(name, Lot())
    if word in lot:
        return parts, "idle"
    for secret in parts["secrets"]:
        if settles(lot.words() + [word], secret):
            raise GivenAway(secret)
    more = {**readers, name: lot + word}
    if len(more) > MOST_READERS:
        raise TooMany("readers", MOST_READERS)
    return {**parts, "readers": {one: more[one] for one in sorted(more)}}, "done"


def _revoke(parts, name, word):
    if name not in parts["readers"]:
        raise UnknownReader(name)
    readers = {**parts["readers"], name: parts["readers"][name] - word}
    return {**parts, "readers": {one: readers[one] for one in readers if len(readers[one]) > 0}}, "done"


def _hide(parts, word):
    if word in parts["secrets"]:
        return parts, "idle"
    for name in parts["readers"]:
        if settles(parts["readers"][name].words(), word):
            raise GivenAway(name)
    if len(parts["secrets"]) == MOST_SECRETS:
        raise TooMany("secrets", MOST_SECRETS)
    return {**parts, "secrets": by_length(parts["secrets"] + [word])}, "done"


def _show(parts, word):
    if word not in parts["secrets"]:
        raise UnknownWord(word)
    return {**parts, "secrets": [secret for secret in parts["secrets"] if secret != word]}, "done"


def _need_rule(rule):
    if not fits_rule(rule):
        raise InvalidRule(rule)


def _fresh(parts):
    """The parts with tables of the store as it is."""
    return {**parts, "tables": kept_of(parts["store"], parts["lot"], parts["telling"]), "late": 0}


def _behind(parts, store, tie, is_put):
    """The parts with the store behind a tie that was put in or struck, its tables kept up, or later by one."""
    lot, tables = parts["lot"], parts["tables"]
    if parts["late"] > 0:
        return {**parts, "store": store, "late": parts["late"] + 1}
    if tie[1] not in lot.letters():
        return {**parts, "store": store}
    if not keeps_up(lot, tie[1]) or not (is_put or parts["telling"] == "many"):
        return {**parts, "store": store, "late": 1}
    if is_put:
        return {**parts, "store": store, "tables": behind_put(lot, store.nodes, tables, parts["telling"], tie)}
    return {**parts, "store": store, "tables": behind_strike(lot, store.nodes, tables, tie)}


CHANGES = {
    "put": _put,
    "strike": _strike,
    "fill": _fill,
    "rule": _rule,
    "unrule": _unrule,
    "keep": _keep,
    "drop": _drop,
    "refresh": _refresh,
    "grant": _grant,
    "revoke": _revoke,
    "hide": _hide,
    "show": _show,
}
