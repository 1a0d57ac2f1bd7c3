"""Scenes: deeds that change loose ties, parts that take part in them, and the duty behind them."""

from netkeep.bodies import fits_bodies, fits_change, fits_state, turned, wrong_power
from netkeep.duty import Rests, wanted_ties
from netkeep.errors import TooMany
from netkeep.faults import InvalidBodies, InvalidChange, InvalidLoose, InvalidPowers, InvalidState, UnknownDeed
from netkeep.filling import need_few, need_rules
from netkeep.running import runs_of
from netkeep.store import Store
from netkeep.ties import first_wrong, is_list, is_tie

MOST_LOOSE = 6
MOST_POWERS = 8


class Scene:
    """A store with loose ties, the deeds that change them, powers, rules and perhaps a duty; it never changes."""

    def __init__(self, store, loose, deeds, powers=(), rules=(), duty=False):
        _need_loose(store, loose)
        if not fits_bodies(deeds, loose):
            raise InvalidBodies(deeds)
        _need_powers(powers, deeds, loose)
        need_rules(rules)
        if len(store) + len([tie for tie in loose if tie not in store]) > Store.MOST_TIES:
            raise TooMany("ties", Store.MOST_TIES)
        if len(loose) > MOST_LOOSE:
            raise TooMany("loose", MOST_LOOSE)
        if len(powers) > MOST_POWERS:
            raise TooMany("powers", MOST_POWERS)
        need_few(rules)
        self._store = store
        self._loose = sorted(loose)
        self._bodies = {deed: list(deeds[deed]) for deed in sorted(deeds)}
        self._powers = sorted(powers)
        self._rules = sorted(rules)
        self._duty = duty

    @property
    def store(self):
        """The store in the first state."""
        return self._store

    @property
    def duty(self):
        """Whether it has a duty."""
        return self._duty

    @property
    def first_state(self):
        """Which loose ties stand at first."""
        return tuple([int(tie in self._store) for tie in self._loose])

    def loose(self):
        """The sorted list of the loose ties."""
        return list(self._loose)

    def deeds(self):
        """The sorted list of the names of the deeds."""
        return list(self._bodies)

    def powers(self):
        """The sorted list of the powers."""
        return list(self._powers)

    def rules(self):
        """The sorted list of the rules."""
        return list(self._rules)

    def body(self, deed):
        """The list of the changes of the deed."""
        need_deed(self, deed)
        return list(self._bodies[deed])

    def store_at(self, state):
        """The store in the state."""
        need_state(self, state)
        ties = [tie for tie in self._store.ties() if tie not in self._loose]
        return Store(self._store.nodes, ties + [tie for tie, stands in zip(self._loose, state) if stands])

    def with_duty(self, duty):
        """The scene with a duty, or without one."""
        return Scene(self._store, self._loose, self._bodies, self._powers, self._rules, duty)

    def __sub__(self, other):
        _need_powers(other, self._bodies, self._loose)
        left = [power for power in self._powers if power not in other]
        return Scene(self._store, self._loose, self._bodies, left, self._rules, self._duty)

    def __add__(self, other):
        _need_powers(other, self._bodies, self._loose)
        more = self._powers + [power for power in other if power not in self._powers]
        return Scene(self._store, self._loose, self._bodies, more, self._rules, self._duty)

    def __eq__(self, other):
        return (
            isinstance(other, Scene)
            and self._store == other._store
            and self._loose == other._loose
            and self._bodies == other._bodies
            and self._powers == other._powers
            and self._rules == other._rules
            and self._duty == other._duty
        )


def need_deed(scene, deed):
    """Refuse what is no deed of the scene."""
    if not isinstance(deed, str) or deed not in scene.deeds():
        raise UnknownDeed(deed)


def need_state(scene, state):
    """Refuse what is no state of the scene."""
    if not fits_state(state, len(scene.loose())):
        raise InvalidState(state)


def changed(scene, state, change):
    """The state behind the change."""
    need_state(scene, state)
    if not fits_change(change, scene.loose()):
        raise InvalidChange(change)
    return turned(scene.loose(), state, change)


def wanted(scene, state):
    """The sorted list of the loose ties that a rule wants."""
    need_state(scene, state)
    return wanted_ties(scene, state)


def duty_way(scene, state):
    """The list of the states that the duty comes to; empty without one."""
    need_state(scene, state)
    return Rests(scene).way(state)


def rest_of(scene, state):
    """The last of the states that the duty comes to, or the state."""
    need_state(scene, state)
    return Rests(scene).rest(state)


def outcomes(scene, deed, state):
    """The sorted list of the states in which the body of the deed can be over, begun in the state."""
    need_deed(scene, deed)
    need_state(scene, state)
    return runs_of(scene).outcomes(deed, state)


def _need_loose(store, loose):
    if not is_list(loose) or not loose:
        raise InvalidLoose(None)
    wrong = first_wrong(loose, [is_tie(tie, store.nodes) for tie in loose])
    if wrong is not None:
        raise InvalidLoose(wrong)


def _need_powers(powers, bodies, loose):
    if not is_list(powers):
        raise InvalidPowers(None)
    wrong = wrong_power(powers, bodies, loose)
    if wrong is not None:
        raise InvalidPowers(wrong)
