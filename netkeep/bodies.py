"""Changes of loose ties, bodies of deeds and powers: which values are such, and what changes do to states."""

from netkeep.store import Store
from netkeep.ties import first_wrong, is_below, is_list, is_tie
from netkeep.words import is_name

MOST_DEEDS = 4
MOST_CHANGES = 3


def fits_change(value, loose):
    """Whether it is a change of one of the loose ties."""
    if not isinstance(value, tuple) or len(value) != 2 or not isinstance(value[0], str):
        return False
    # The form is looked at first: (True, "a", 2) is equal to (1, "a", 2), but it is no tie.
    return value[0] in ("put", "strike") and is_tie(value[1], Store.MOST_NODES) and value[1] in loose


def fits_bodies(value, loose):
    """Whether it is a dict from one to four names to bodies of changes of the loose ties."""
    if not isinstance(value, dict) or not 1 <= len(value) <= MOST_DEEDS:
        return False
    return all([is_name(deed) and _fits_body(value[deed], loose) for deed in value])


def _fits_body(value, loose):
    if not is_list(value) or not 1 <= len(value) <= MOST_CHANGES:
        return False
    return all([fits_change(change, loose) for change in value])


def fits_power(value, bodies, loose):
    """Whether it is a power of the deeds with these bodies."""
    if not isinstance(value, tuple) or not 3 <= len(value) <= 4 or not isinstance(value[0], str):
        return False
    if not isinstance(value[1], str) or value[1] not in bodies or not is_below(value[2], len(bodies[value[1]]) + 1):
        return False
    if len(value) == 3:
        return value[0] == "stop"
    if value[0] == "door":
        return isinstance(value[3], str) and value[3] in bodies
    return value[0] == "change" and fits_change(value[3], loose)


def wrong_power(values, bodies, loose):
    """The position of the first value that is no power of the deeds, or stands ahead; None without one."""
    return first_wrong(values, [fits_power(value, bodies, loose) for value in values])


def fits_state(value, many):
    """Whether it is a tuple with 1 or 0 for each of so many loose ties."""
    return isinstance(value, tuple) and len(value) == many and all([is_below(one, 2) for one in value])


def turned(loose, state, change):
    """The state behind a change."""
    kind, tie = change
    at = loose.index(tie)
    return state[:at] + (int(kind == "put"),) + state[at + 1:]
