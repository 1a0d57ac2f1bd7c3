"""Vows: what holds in states, and the records that show that it is kept."""

from netkeep.answers import pairs
from netkeep.faults import InvalidLooks, InvalidVow
from netkeep.parts import need_state
from netkeep.recording import fits_record, least_record, seen_by, seen_states
from netkeep.ties import is_list, is_pair
from netkeep.words import is_word


def holds(scene, state, vow):
    """Whether the vow holds in the state."""
    need_state(scene, state)
    need_vow(scene, vow)
    return holds_at(scene, state, vow)


def record(scene):
    """The least record."""
    return least_record(scene)


def is_record(scene, value):
    """Whether any value is a closed record."""
    return fits_record(scene, value) and seen_by(scene, value) is not None


def shows(scene, value, vow, looks="all"):
    """Whether any value is a closed record that shows the vow."""
    need_vow(scene, vow)
    need_looks(looks)
    if not fits_record(scene, value):
        return False
    found = seen_by(scene, value)
    if found is None:
        return False
    looked = found if looks == "all" else {state: True for state in value[1]}
    return all([holds_at(scene, state, vow) for state in looked])


def is_kept(scene, vow, looks="all"):
    """Whether the vow is kept, for these looks."""
    need_vow(scene, vow)
    need_looks(looks)
    return all([holds_at(scene, state, vow) for state in seen_states(scene, looks)])


def seen(scene, looks="all"):
    """The sorted list of the states at these looks in all plays."""
    need_looks(looks)
    return seen_states(scene, looks)


def need_vow(scene, vow):
    """Refuse what is no vow of words and pairs of nodes of the store."""
    if not is_list(vow) or not vow or not all([_is_promise(part, scene.store.nodes) for part in vow]):
        raise InvalidVow(vow)


def need_looks(looks):
    """Refuse what is neither "all" nor "rest"."""
    if not isinstance(looks, str) or looks not in ("all", "rest"):
        raise InvalidLooks(looks)


def _is_promise(value, nodes):
    if not isinstance(value, tuple) or len(value) != 3 or not is_word(value[0]):
        return False
    return is_pair(value[1], nodes) and isinstance(value[2], bool)


def holds_at(scene, state, vow):
    """Whether the vow holds in a state of the scene."""
    store = scene.store_at(state)
    answers = {}
    for word, pair, told in vow:
        if word not in answers:
            answers[word] = {one: True for one in pairs(store, word)}
        if (pair in answers[word]) != told:
            return False
    return True
