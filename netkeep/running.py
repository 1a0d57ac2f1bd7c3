"""The cheapest runs of bodies, by their effects: what a run may do does not hang on the state.

Points are tuples (deed, place). What is found is told by items: ("at", point, effect) stands for a run that has
come to the point, ("whole", deed, effect) for one that is over, ("cut", deed, effect) for one that ends right
behind a change, its own or one of a run behind its last door. Weights are tuples (price, number of steps).
"""

from heapq import heappop, heappush

from netkeep.effects import NO_EFFECT, acted, both, coded, decoded, effect_of


class Runs:
    """The cheapest runs with some powers, by prices of these; of the cheapest ones those with the fewest steps."""

    def __init__(self, scene, powers, prices):
        loose = scene.loose()
        self._bodies = {deed: [effect_of(loose, change) for change in scene.body(deed)] for deed in scene.deeds()}
        points = [(deed, place) for deed in self._bodies for place in range(len(self._bodies[deed]) + 1)]
        self._changes = {point: [] for point in points}
        self._stops = {point: [] for point in points}
        self._doors = {point: [] for point in points}
        self._doors_to = {deed: [] for deed in self._bodies}
        for power in powers:
            self._take(power, prices[power], loose)
        self._found = {("at", point): {} for point in points}
        for deed in self._bodies:
            self._found["whole", deed] = {}
            self._found["cut", deed] = {}
        self._weights = {}
        self._ways = {}
        self._queue = []
        for deed in self._bodies:
            self._push(("at", (deed, 0), NO_EFFECT), (0, 0), None)
        self._work()

    def _take(self, power, price, loose):
        point = power[1:3]
        if power[0] == "change":
            self._changes[point].append((("change", power[3]), effect_of(loose, power[3]), price))
        elif power[0] == "stop":
            self._stops[point].append(price)
        else:
            self._doors[point].append((power[3], price))
            self._doors_to[power[3]].append((point, price))

    def _push(self, item, weight, way):
        """Note that an item can be had for a weight, by a way: the item ahead, a step, an item behind a door."""
        if item not in self._weights or weight < self._weights[item]:
            self._weights[item] = weight
            self._ways[item] = way
            heappush(self._queue, (weight, item))

    def _work(self):
        # No item weighs less than those it is made of: what is popped first weighs the least.
        while self._queue:
            weight, item = heappop(self._queue)
            kind, where, effect = item
            if effect not in self._found[kind, where]:
                self._found[kind, where][effect] = weight
                if kind == "at":
                    self._go_on(where, effect, weight)
                else:
                    self._come_back(item, weight)

    def _go_on(self, point, effect, weight):
        """All that a run comes to from a point by one step."""
        deed, place = point
        here = ("at", point, effect)
        if place < len(self._bodies[deed]):
            self._change(here, "next", self._bodies[deed][place], place + 1, _more(weight, 0))
        else:
            self._push(("whole", deed, effect), weight, (here, None, None))
        for step, turn, price in self._changes[point]:
            self._change(here, step, turn, place, _more(weight, price))
        for price in self._stops[point]:
            self._push(("whole", deed, effect), _more(weight, price), (here, "stop", None))
        for other, price in self._doors[point]:
            for kind in ("whole", "cut"):
                for turn, further in self._found[kind, other].items():
                    self._enter(here, (kind, other, turn), _sum(_more(weight, price), further))

    def _come_back(self, inner, weight):
        """All that runs come to by a door to a run that is found now."""
        for point, price in self._doors_to[inner[1]]:
            for effect, ahead in self._found["at", point].items():
                self._enter(("at", point, effect), inner, _sum(_more(ahead, price), weight))

    def _change(self, here, step, turn, place, weight):
        _, (deed, _), effect = here
        behind = both(effect, turn)
        self._push(("at", (deed, place), behind), weight, (here, step, None))
        self._push(("cut", deed, behind), weight, (here, step, None))

    def _enter(self, here, inner, weight):
        _, point, effect = here
        behind = both(effect, inner[2])
        if inner[0] == "whole":
            self._push(("at", point, behind), weight, (here, "door", inner))
        else:
            self._push(("cut", point[0], behind), weight, (here, "door", inner))

    def effects(self, kind, deed):
        """The weights of all effects of runs of the deed, whole ones or cut ones."""
        found = self._found[kind, deed]
        return {effect: found[effect] for effect in found}

    def doors(self, deed):
        """For each door in the body of the deed a tuple of the deed to which it leads and the effects ahead of it."""
        found = []
        for place in range(len(self._bodies[deed]) + 1):
            ahead = list(self._found["at", (deed, place)])
            found.extend([(other, ahead) for other, _ in self._doors[deed, place]])
        return found

    def outcomes(self, deed, state):
        """The sorted list of the states in which the body can be over, begun in the state."""
        numbers = sorted({acted(effect, coded(state)) for effect in self._found["whole", deed]})
        return [decoded(number, len(state)) for number in numbers]

    def run(self, kind, deed, effect):
        """The run of an item."""
        steps = []
        way = self._ways[kind, deed, effect]
        while way is not None:
            here, step, inner = way
            if inner is not None:
                steps.append(("door", self.run(*inner)))
            elif step is not None:
                steps.append(step)
            way = self._ways[here]
        return deed, steps[::-1]


def runs_of(scene):
    """The runs of the scene, whatever they cost."""
    return Runs(scene, scene.powers(), {power: 0 for power in scene.powers()})


def _more(weight, price):
    return weight[0] + price, weight[1] + 1


def _sum(one, other):
    return one[0] + other[0], one[1] + other[1]
