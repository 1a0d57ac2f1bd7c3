"""The duty of a scene: which loose ties rules want in a state, and what comes behind a body."""

from netkeep.answers import pairs
from netkeep.bodies import turned


def wanted_ties(scene, state):
    """The sorted list of the loose ties that a rule wants in the state."""
    store = scene.store_at(state)
    found = {}
    for word, letter in scene.rules():
        joined = {pair: True for pair in pairs(store, word)}
        for at, tie in enumerate(scene.loose()):
            if not state[at] and tie[1] == letter and (tie[0], tie[2]) in joined:
                found[tie] = True
    return sorted(found)


class Rests:
    """What the duty of a scene does at each state; each is worked out once."""

    def __init__(self, scene):
        self._scene = scene
        self._known = {}

    def way(self, state):
        """The list of the states that the duty comes to from the state."""
        if state not in self._known:
            self._known[state] = self._work_out(state)
        return list(self._known[state])

    def rest(self, state):
        """The state at rest that comes behind the state."""
        return ([state] + self.way(state))[-1]

    def _work_out(self, state):
        missing = wanted_ties(self._scene, state) if self._scene.duty else []
        if not missing:
            return []
        further = turned(self._scene.loose(), state, ("put", missing[0]))
        return [further] + self.way(further)
