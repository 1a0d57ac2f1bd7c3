"""Runs as values: which are such, which powers they use, and to which states they come."""

from netkeep.bodies import fits_change, turned
from netkeep.ties import is_list


def kind_of_run(scene, powers, value):
    """Whether any value is a run with some powers of the scene, "whole" or "cut"; None if it is no run."""
    if not isinstance(value, tuple) or len(value) != 2 or not is_list(value[1]):
        return None
    deed, steps = value
    if not isinstance(deed, str) or deed not in scene.deeds():
        return None
    last = len(scene.body(deed))
    place, ended = 0, None
    for step in steps:
        behind = _behind(scene, powers, (deed, place), step)
        # Nothing comes behind a stop, or behind a door to a cut run.
        if behind is None or ended is not None:
            return None
        place, ended = behind
        if place > last:
            return None
    if ended is None:
        return "whole" if place == last else "cut"
    return ended


def _behind(scene, powers, point, step):
    """The place behind a step and how the run has ended there, None if it goes on; None if it is no step."""
    deed, place = point
    if isinstance(step, str):
        if step == "next":
            return place + 1, None
        return (place, "whole") if step == "stop" and ("stop", deed, place) in powers else None
    if not isinstance(step, tuple) or len(step) != 2 or not isinstance(step[0], str):
        return None
    if step[0] == "change":
        if not fits_change(step[1], scene.loose()) or ("change", deed, place, step[1]) not in powers:
            return None
        return place, None
    kind = kind_of_run(scene, powers, step[1]) if step[0] == "door" else None
    if kind is None or ("door", deed, place, step[1][0]) not in powers:
        return None
    return place, ("cut" if kind == "cut" else None)


def powers_in(run):
    """The list of the powers that a run uses, each as often as it does."""
    deed, steps = run
    place = 0
    found = []
    for step in steps:
        if step == "next":
            place += 1
        elif step == "stop":
            found.append(("stop", deed, place))
        elif step[0] == "change":
            found.append(("change", deed, place, step[1]))
        else:
            found.append(("door", deed, place, step[1][0]))
            found.extend(powers_in(step[1]))
    return found


def states_in(scene, run, state):
    """The list of the states behind the single changes of a run that is begun in the state."""
    deed, steps = run
    left = scene.body(deed)[::-1]
    found = [state]
    for step in steps:
        if step == "next":
            found.append(turned(scene.loose(), found[-1], left.pop()))
        elif step != "stop" and step[0] == "change":
            found.append(turned(scene.loose(), found[-1], step[1]))
        elif step != "stop":
            found.extend(states_in(scene, step[1], found[-1]))
    return found[1:]
