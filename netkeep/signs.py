"""Signs: letters, which go along ties, and capitals, which go back along them."""

from netkeep.errors import InvalidSigns
from netkeep.masks import goal_rows, source_rows
from netkeep.ties import is_below
from netkeep.words import is_letter

SIGNS = "ABCDEFabcdef"
MOST_SIGNS = 60


def is_sign(value):
    """Whether it is a letter or the capital of one."""
    return isinstance(value, str) and len(value) == 1 and value in SIGNS


def are_signs(value):
    """Whether it is a string of signs, of any length, perhaps empty."""
    return isinstance(value, str) and all([sign in SIGNS for sign in value])


def need_signs(signs):
    """Refuse what is no string of signs, or has too many."""
    if not are_signs(signs) or len(signs) > MOST_SIGNS:
        raise InvalidSigns(signs)


def contrary(sign):
    """The sign that goes the other way."""
    return sign.swapcase()


def is_step(value, standings):
    """Whether it is a tuple (standing, sign, standing) of so many standings."""
    if not isinstance(value, tuple) or len(value) != 3:
        return False
    return is_below(value[0], standings) and is_sign(value[1]) and is_below(value[2], standings)


def step_rows(standings, steps):
    """For each sign, and each standing, the mask of the standings to which steps with this sign lead from it."""
    rows = {sign: [0] * standings for sign in SIGNS}
    for standing, sign, goal in steps:
        rows[sign][standing] = rows[sign][standing] | 1 << goal
    return rows


def sign_rows(store):
    """For each sign, and each node, the mask of the nodes to which the sign goes from it."""
    rows = goal_rows(store.nodes, store.ties())
    sources = source_rows(store.nodes, store.ties())
    for letter in sources:
        rows[contrary(letter)] = sources[letter]
    return rows


def tie_of(sign, place):
    """The tie of the sign at this place of a row."""
    if is_letter(sign):
        return place, sign, place + 1
    return place + 1, contrary(sign), place
