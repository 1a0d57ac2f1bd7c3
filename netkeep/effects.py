"""Effects: what changes, one behind another, do to any state, and states as numbers.

A state's number has a bit for each loose tie, the greatest one for the first tie, so that numbers compare as states
do. An effect is a tuple of two such numbers (set, put): which ties it sets at all, and which of these stand then.
"""

NO_EFFECT = (0, 0)


def coded(state):
    """The number of a state."""
    number = 0
    for one in state:
        number = 2 * number + one
    return number


def decoded(number, many):
    """The state of so many loose ties with this number."""
    return tuple([number >> at & 1 for at in range(many - 1, -1, -1)])


def effect_of(loose, change):
    """The effect of a change."""
    bit = 1 << len(loose) - 1 - loose.index(change[1])
    return bit, bit if change[0] == "put" else 0


def both(one, other):
    """The effect of one behind which comes the other one."""
    return one[0] | other[0], one[1] & ~other[0] | other[1]


def acted(effect, number):
    """The number of the state behind an effect."""
    return number & ~effect[0] | effect[1]
