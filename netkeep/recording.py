"""Records: the least one of a scene, and what any record sees."""

from netkeep.bodies import fits_state, turned
from netkeep.duty import Rests
from netkeep.effects import acted, coded, decoded
from netkeep.running import runs_of
from netkeep.ties import is_list


def least_record(scene):
    """The least closed record: what is called at rest, and what is called by doors from there."""
    runs, rests = runs_of(scene), Rests(scene)
    ends = {}
    resting = {scene.first_state: True}
    queue = [(deed, scene.first_state) for deed in scene.deeds()]
    while queue:
        deed, state = queue.pop()
        if (deed, state) not in ends:
            ends[deed, state] = runs.outcomes(deed, state)
            queue.extend(_entered(runs, deed, state))
        if state in resting:
            for over in ends[deed, state]:
                further = rests.rest(over)
                if further not in resting:
                    resting[further] = True
                    queue.extend([(other, further) for other in scene.deeds()])
    return {key: ends[key] for key in sorted(ends)}, sorted(resting)


def _entered(runs, deed, state):
    """The keys of all doors in a body that is begun in the state."""
    found = {}
    for other, effects in runs.doors(deed):
        for effect in effects:
            found[other, decoded(acted(effect, coded(state)), len(state))] = True
    return list(found)


def seen_states(scene, looks):
    """The sorted list of the states at these looks in all plays."""
    runs, rests = runs_of(scene), Rests(scene)
    resting = {scene.first_state: True}
    found = {scene.first_state: True}
    queue = [scene.first_state]
    while queue:
        state = queue.pop()
        for deed in scene.deeds():
            for effect in runs.effects("cut", deed):
                found[decoded(acted(effect, coded(state)), len(state))] = True
            for over in runs.outcomes(deed, state):
                further = rests.rest(over)
                found.update({one: True for one in rests.way(over)})
                if further not in resting:
                    resting[further] = True
                    queue.append(further)
    return sorted(resting) if looks == "rest" else sorted(found)


def fits_record(scene, value):
    """Whether any value has the form of a record, closed or not."""
    if not isinstance(value, tuple) or len(value) != 2 or not isinstance(value[0], dict):
        return False
    ends, rests = value
    many, deeds = len(scene.loose()), scene.deeds()
    if not all([_is_key(key, deeds, many) and _are_states(ends[key], many) for key in ends]):
        return False
    return _are_states(rests, many)


def _is_key(value, deeds, many):
    if not isinstance(value, tuple) or len(value) != 2 or not isinstance(value[0], str):
        return False
    return value[0] in deeds and fits_state(value[1], many)


def _are_states(value, many):
    return is_list(value) and all([fits_state(state, many) for state in value])


def seen_by(scene, value):
    """The dict of the states that a record sees, as keys; None if it is not closed."""
    ends, told = value
    rests = Rests(scene)
    resting = {state: True for state in told}
    found = {state: True for state in told}
    if scene.first_state not in resting or not all([(deed, one) in ends for deed in scene.deeds() for one in resting]):
        return None
    bodies = Bodies(scene, ends)
    for deed, state in ends:
        over = bodies.over(deed, state)
        if over is None or any([one not in ends[deed, state] for one in over]):
            return None
        if state in resting:
            for one in ends[deed, state]:
                if rests.rest(one) not in resting:
                    return None
                found.update({further: True for further in rests.way(one)})
    found.update(bodies.seen)
    return found


class Bodies:
    """The bodies of a scene, with doors that lead to the states that a record tells."""

    def __init__(self, scene, ends):
        self._scene = scene
        self._ends = ends
        self._changes = {}
        self._stops = {}
        self._doors = {}
        for power in scene.powers():
            if power[0] == "change":
                self._changes.setdefault(power[1:3], []).append(power[3])
            elif power[0] == "stop":
                self._stops[power[1:3]] = True
            else:
                self._doors.setdefault(power[1:3], []).append(power[3])
        self._known = {}
        self.seen = {}

    def over(self, deed, state):
        """The states in which the body can be over, begun in the state; None if a door has no key."""
        body = self._scene.body(deed)
        found = {}
        there = {(0, state): True}
        queue = [(0, state)]
        while queue:
            place, here = queue.pop()
            if place == len(body) or (deed, place) in self._stops:
                found[here] = True
            further = self._moves(deed, place, here, body)
            if further is None:
                return None
            for one in further:
                if one not in there:
                    there[one] = True
                    queue.append(one)
        return list(found)

    def _moves(self, deed, place, state, body):
        """The tuples (place, state) to which one step leads in a body; None if a door has no key."""
        if (deed, place, state) not in self._known:
            self._known[deed, place, state] = self._work_out(deed, place, state, body)
        return self._known[deed, place, state]

    def _work_out(self, deed, place, state, body):
        loose = self._scene.loose()
        found = [(place, turned(loose, state, change)) for change in self._changes.get((deed, place), [])]
        if place < len(body):
            found.append((place + 1, turned(loose, state, body[place])))
        self.seen.update({further: True for _, further in found})
        for other in self._doors.get((deed, place), []):
            if (other, state) not in self._ends:
                return None
            found.extend([(place, further) for further in self._ends[other, state]])
        return found
