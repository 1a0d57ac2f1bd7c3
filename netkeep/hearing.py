"""What weavings tell of ties, where two of them are apart in it, and stores in which asks hear it."""

from netkeep.choosing import choices_of
from netkeep.store import Store
from netkeep.weaving import way_of, weaving_of, weavings


def told_marks(sessions, weaving):
    """For the spot of each ask the marks ahead of it of ties with letters of its word; for None all at the end."""
    now = {}
    found = {}
    for spot in way_of(weaving):
        kind, worth = sessions[spot]
        if kind == "ask":
            found[spot] = {tie: now[tie] for tie in now if tie[1] in worth}
        else:
            now[worth] = kind == "put"
    found[None] = now
    return found


def marks_of_orders(sessions):
    """The list of the tuples (order, marks that its weaving tells), sorted by the orders."""
    return [(order, told_marks(sessions, weaving_of(sessions, order))) for order in sessions.orders()]


def least_order(orders, told):
    """The least order that tells just these marks; None if there is none."""
    for order, marks in orders:
        if marks == told:
            return order
    return None


def missed_weavings(sessions):
    """The sorted list of the weavings that no order explains for all stores."""
    orders = marks_of_orders(sessions)
    return [weaving for weaving in weavings(sessions) if least_order(orders, told_marks(sessions, weaving)) is None]


def parted_at(one, other, there):
    """Where marks are apart in the stores that have just these of the touched ties; None if they are not.

    It is told by a tuple: a spot, or None for the end, and a tie that is there then by one of both alone.
    """
    for spot in one:
        for tie in {**one[spot], **other[spot]}:
            if one[spot].get(tie, tie in there) != other[spot].get(tie, tie in there):
                return spot, tie
    return None


def touched_sets(sessions):
    """The sorted list of the sorted tuples of some of the touched ties."""
    touched = sessions.touched()
    return sorted([tuple([touched[at] for at in choice]) for choice in choices_of(len(touched))])


def laid(sessions, there, places):
    """A store with some ties, and the rows of the asks' words laid through ties, each over new nodes of its own.

    Nothing but its row leads from the first node of a row, and to its last one: only the tie joins both halves.
    """
    nodes, ties = sessions.nodes, list(there)
    for spot, tie in places:
        if spot is not None:
            word = sessions[spot][1]
            ties.extend(_row_through(word, tie, nodes))
            nodes = nodes + len(word) - 1
    return Store(nodes, ties)


def _row_through(word, tie, fresh):
    """The ties of the row of the word that are beside this tie; fresh nodes have numbers from there on."""
    place = word.index(tie[1])
    last = fresh + len(word) - 1
    way = list(range(fresh, fresh + place)) + [tie[0], tie[2]] + list(range(fresh + place, last))
    return [(way[at], letter, way[at + 1]) for at, letter in enumerate(word) if at != place]
