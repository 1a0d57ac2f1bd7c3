"""Slow, plain ways through scenes: all that bodies, calls and plays can come to, grown until nothing is new."""

import itertools

from netkeep.parts import Scene
from netkeep.store import Store
from support import all_walks


def slow_store(scene, state):
    """The ties of the store in a state."""
    return set(scene.store.ties()) - set(scene.loose()) | {tie for tie, on in zip(scene.loose(), state) if on}


def slow_turned(scene, state, change):
    """The state behind a change."""
    kind, tie = change
    return tuple(int(kind == "put") if other == tie else one for other, one in zip(scene.loose(), state))


def slow_wanted(scene, state):
    """The loose ties that a rule wants."""
    ties = slow_store(scene, state)
    found = set()
    for word, letter in scene.rules():
        joined = {(walk[0], walk[-1]) for walk in all_walks(scene.store.nodes, ties, word)}
        found |= {tie for tie in scene.loose() if tie not in ties and tie[1] == letter and (tie[0], tie[2]) in joined}
    return sorted(found)


def slow_way(scene, state):
    """The states that the duty comes to."""
    found = []
    while scene.duty and slow_wanted(scene, state):
        state = slow_turned(scene, state, ("put", slow_wanted(scene, state)[0]))
        found.append(state)
    return found


def slow_holds(scene, state, vow):
    """Whether a vow holds in a state."""
    ties = slow_store(scene, state)
    return all(((x, y) in {(walk[0], walk[-1]) for walk in all_walks(scene.store.nodes, ties, word)}) == told
               for word, (x, y), told in vow)


def all_states(scene):
    """All states of a scene."""
    return list(itertools.product((0, 1), repeat=len(scene.loose())))


class Grown:
    """For all deeds and states at the beginning: the least prices of all that a body can come to."""

    def __init__(self, scene, prices=None):
        self.scene = scene
        self.prices = prices or {one: 0 for one in scene.deeds() + scene.powers()}
        self.keys = [(deed, state) for deed in scene.deeds() for state in all_states(scene)]
        self.at = {key: {(0, key[1]): 0} for key in self.keys}
        self.over = {key: {} for key in self.keys}
        self.cut = {key: {} for key in self.keys}
        while self.grow():
            pass

    def note(self, table, place, price):
        if place not in table or price < table[place]:
            table[place] = price
            return True
        return False

    def grow(self):
        new = False
        for key in self.keys:
            body = self.scene.body(key[0])
            for (place, state), price in list(self.at[key].items()):
                if place == len(body):
                    new |= self.note(self.over[key], state, price)
                else:
                    further = slow_turned(self.scene, state, body[place])
                    new |= self.note(self.at[key], (place + 1, further), price)
                    new |= self.note(self.cut[key], further, price)
                for power in self.scene.powers():
                    if power[1:3] == (key[0], place):
                        new |= self.use(key, place, state, price + self.prices[power], power)
        return new

    def use(self, key, place, state, price, power):
        if power[0] == "stop":
            return self.note(self.over[key], state, price)
        if power[0] == "change":
            further = slow_turned(self.scene, state, power[3])
            return self.note(self.at[key], (place, further), price) | self.note(self.cut[key], further, price)
        new = False
        for further, more in list(self.over[power[3], state].items()):
            new |= self.note(self.at[key], (place, further), price + more)
        for further, more in list(self.cut[power[3], state].items()):
            new |= self.note(self.cut[key], further, price + more)
        return new

    def rests(self):
        """The least prices of plays that come to each state at rest."""
        found = {self.scene.first_state: 0}
        while True:
            new = False
            for state, price in list(found.items()):
                for deed in self.scene.deeds():
                    for over, more in self.over[deed, state].items():
                        rest = ([over] + slow_way(self.scene, over))[-1]
                        new |= self.note(found, rest, price + self.prices[deed] + more)
            if not new:
                return found

    def looked(self, looks):
        """The least prices of plays that look at each state."""
        found = self.rests()
        if looks == "rest":
            return found
        for state, price in list(found.items()):
            for deed in self.scene.deeds():
                for further, more in self.cut[deed, state].items():
                    self.note(found, further, price + self.prices[deed] + more)
                for over, more in self.over[deed, state].items():
                    for further in slow_way(self.scene, over):
                        self.note(found, further, price + self.prices[deed] + more)
        return found

    def least_cost(self, vow, looks):
        """The least cost of a play that breaks a vow; None if it is kept."""
        costs = [price for state, price in self.looked(looks).items() if not slow_holds(self.scene, state, vow)]
        return min(costs, default=None)

    def record(self):
        """The least record: keys at rest, and keys of doors that are come to from there."""
        rests = self.rests()
        keys = {(deed, state) for deed in self.scene.deeds() for state in rests}
        while True:
            more = {(power[3], state) for deed, begun in keys for place, state in self.at[deed, begun]
                    for power in self.scene.powers() if power[0] == "door" and power[1:3] == (deed, place)} - keys
            if not more:
                return {key: sorted(self.over[key]) for key in sorted(keys)}, sorted(rests)
            keys |= more


def slow_run(scene, run, state):
    """What a run does from a state: the states behind its changes, the powers used, whether it is cut; None if none."""
    if type(run) is not tuple or len(run) != 2 or type(run[0]) is not str or run[0] not in scene.deeds():
        return None
    deed, steps = run
    if type(steps) not in (list, tuple):
        return None
    body, place, states, used, over = scene.body(deed), 0, [], [], None
    for step in steps:
        here = (states or [state])[-1]
        if over is not None:
            return None
        if type(step) is str and step == "next" and place < len(body):
            states.append(slow_turned(scene, here, body[place]))
            place += 1
        elif type(step) is str and step == "stop":
            used.append(("stop", deed, place))
            over = "whole"
        elif type(step) is tuple and len(step) == 2 and type(step[0]) is str and step[0] == "change":
            if repr(("change", deed, place, step[1])) not in map(repr, scene.powers()):
                return None
            used.append(("change", deed, place, step[1]))
            states.append(slow_turned(scene, here, step[1]))
        elif type(step) is tuple and len(step) == 2 and type(step[0]) is str and step[0] == "door":
            inner = slow_run(scene, step[1], here)
            if inner is None:
                return None
            used += [("door", deed, place, step[1][0])] + inner[1]
            states += inner[0]
            over = "cut" if inner[2] == "cut" else None
        else:
            return None
    if any(power not in scene.powers() for power in used):
        return None
    return states, used, over or ("whole" if place == len(body) else "cut")


def slow_play(scene, play):
    """The states looked at, for all looks and at rest, and the powers used with the deeds called; None if no play."""
    if type(play) not in (list, tuple):
        return None
    state, every, rests, used = scene.first_state, [scene.first_state], [scene.first_state], []
    for at, run in enumerate(play):
        told = slow_run(scene, run, state)
        if told is None or (told[2] == "cut" and at + 1 < len(play)):
            return None
        every += told[0]
        used += [run[0]] + told[1]
        state = (told[0] or [state])[-1]
        if told[2] == "whole":
            every += slow_way(scene, state)
            state = ([state] + slow_way(scene, state))[-1]
            rests.append(state)
    return every, rests, used


def some_scene(rng, many_loose=3, powers=5, deeds=3):
    """A scene with rules that want some of its loose ties, as the random source tells."""
    nodes = rng.choice((1, 2, 2, 3))
    every = [(x, letter, y) for x in range(nodes) for letter in "abc" for y in range(nodes)]
    loose = rng.sample(every, rng.randint(1, min(many_loose, len(every))))
    fixed = [tie for tie in rng.sample(every, min(3, len(every))) if tie not in loose]
    fixed += [tie for tie in loose if rng.random() < 0.5]
    changes = [(kind, tie) for kind in ("put", "strike") for tie in loose]
    names = rng.sample(["go", "a", "zz", "cut"], rng.randint(1, deeds))
    bodies = {name: [rng.choice(changes) for _ in range(rng.randint(1, 3))] for name in names}
    able = []
    for name in names:
        for place in range(len(bodies[name]) + 1):
            able += [("change", name, place, change) for change in changes] + [("stop", name, place)] * 2
            able += [("door", name, place, other) for other in names] * 2
    chosen = []
    for power in rng.sample(able, min(len(able), rng.randint(0, powers))):
        if power not in chosen:
            chosen.append(power)
    rules = [("a", "b"), ("b", "a"), ("aa", "a"), ("ab", "b"), ("ba", "a"), ("aba", "b"), ("b", "c"), ("c", "a"), ("a", "c")]
    return Scene(Store(nodes, fixed), loose, bodies, chosen, rng.sample(rules, rng.randint(0, 4)), rng.random() < 0.6)


def great_scene(rules=(), duty=True):
    """A scene at the limits: six loose ties, four deeds, eight powers."""
    ties = [(x, "a", y) for x in range(2) for y in range(3)]
    bodies = {"p": [("put", ties[0]), ("strike", ties[1]), ("put", ties[2])],
              "q": [("strike", ties[0]), ("put", ties[3])], "r": [("put", ties[4]), ("strike", ties[5])],
              "s": [("put", ties[5]), ("strike", ties[4]), ("strike", ties[3])]}
    powers = [("door", "p", 1, "q"), ("door", "q", 1, "r"), ("door", "r", 1, "s"), ("door", "s", 2, "p"),
              ("stop", "s", 1), ("stop", "p", 0), ("change", "r", 2, ("put", ties[1])),
              ("change", "s", 3, ("strike", ties[2]))]
    return Scene(Store(3), ties, bodies, powers, rules, duty)


def some_run(rng, scene, deed, depth, cut):
    """A run of the deed, as the random source tells: whole, or cut somewhere; None if the source leads astray."""
    body, place, steps = scene.body(deed), 0, []
    while len(steps) < 12:
        able = ["next"] * 2 if place < len(body) else ["over"] * 2
        able += [power for power in scene.powers() if power[1:3] == (deed, place)]
        step = rng.choice(able)
        if cut and rng.random() < 0.2:
            return deed, steps
        if step == "over":
            return deed, steps
        if step == "next":
            place += 1
            steps.append("next")
        elif step[0] == "stop":
            return deed, steps + ["stop"]
        elif step[0] == "change":
            steps.append(("change", step[3]))
        else:
            ends = cut and rng.random() < 0.3
            inner = some_run(rng, scene, step[3], depth - 1, ends) if depth else None
            if inner is not None:
                steps.append(("door", inner))
            if ends:
                return deed, steps
    return None


def some_play(rng, scene):
    """A play, as the random source tells."""
    runs = [some_run(rng, scene, rng.choice(scene.deeds()), 3, False) for _ in range(rng.randint(0, 3))]
    last = some_run(rng, scene, rng.choice(scene.deeds()), 3, True)
    return [run for run in runs + [last] if run is not None]


def some_vow(rng, scene):
    """A vow, as the random source tells."""
    words, nodes = ["a", "b", "c", "ab", "ba", "aa", "cb", "abb"], scene.store.nodes
    return [(rng.choice(words), (rng.randrange(nodes), rng.randrange(nodes)), rng.random() < 0.5)
            for _ in range(rng.choice((1, 1, 2)))]
