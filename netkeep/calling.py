"""The search for the cheapest play that breaks a vow: calls, one behind another, from one rest to the next."""

from heapq import heappop, heappush

from netkeep.duty import Rests
from netkeep.effects import acted, coded, decoded
from netkeep.running import Runs
from netkeep.vows import holds_at

# Stands for the look that breaks the vow, where a state is told otherwise.
BROKEN = ()


class Search:
    """Plays of one scene that break one vow, with whatever powers and prices."""

    def __init__(self, scene, vow, looks):
        self._scene = scene
        self._vow = vow
        self._looks = looks
        self._rests = Rests(scene)
        self._failing = {}

    def fails(self, state):
        """Whether the vow does not hold in the state."""
        if state not in self._failing:
            self._failing[state] = not holds_at(self._scene, state, self._vow)
        return self._failing[state]

    def cheapest(self, powers, prices):
        """The price and the play of the cheapest one with these powers; None if the vow is kept with them."""
        first = self._scene.first_state
        if self.fails(first):
            return 0, []
        runs = Runs(self._scene, powers, prices)
        weights, ways = {first: (0, 0)}, {first: None}
        queue = [((0, 0), first)]
        while queue:
            weight, state = heappop(queue)
            if state == BROKEN:
                return weight[0], _play(runs, ways)
            if weight == weights[state]:
                for item, total, goal in self._calls(runs, prices, state, weight):
                    if goal not in weights or total < weights[goal]:
                        weights[goal] = total
                        ways[goal] = state, item
                        heappush(queue, (total, goal))
        return None

    def _calls(self, runs, prices, state, weight):
        """For each call from a state at rest a tuple (item, weight, goal): the rest behind it, or BROKEN."""
        found = []
        for deed in self._scene.deeds():
            begun = weight[0] + prices[deed], weight[1] + 1
            for kind in ("whole", "cut"):
                for effect, more in runs.effects(kind, deed).items():
                    goal = self._goal(kind, decoded(acted(effect, coded(state)), len(state)))
                    if goal is not None:
                        found.append(((kind, deed, effect), (begun[0] + more[0], begun[1] + more[1]), goal))
        return found

    def _goal(self, kind, over):
        """The rest behind a whole run, BROKEN if a look there breaks the vow; None if one behind a cut run does not."""
        if kind == "cut":
            return BROKEN if self._looks == "all" and self.fails(over) else None
        way = self._rests.way(over)
        rest = ([over] + way)[-1]
        looked = [rest] if self._looks == "rest" else way
        return BROKEN if any([self.fails(one) for one in looked]) else rest


def _play(runs, ways):
    """The play that ends with the call that breaks the vow."""
    play = []
    way = ways[BROKEN]
    while way is not None:
        state, item = way
        play.append(runs.run(*item))
        way = ways[state]
    return play[::-1]
