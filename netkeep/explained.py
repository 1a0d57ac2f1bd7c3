"""Which orders explain a weaving: for all stores, in one store, or everywhere, and stores that show the contrary."""

from netkeep.errors import TooMany
from netkeep.hearing import (
    laid,
    least_order,
    marks_of_orders,
    missed_weavings,
    parted_at,
    told_marks,
    touched_sets,
)
from netkeep.store import Store
from netkeep.ties import is_below, is_order
from netkeep.weaving import behind, heard, need_weaving, weaving_of, weavings


def explains(sessions, weaving, order):
    """Whether the order explains the weaving for all stores."""
    need_weaving(sessions, weaving)
    return told_marks(sessions, weaving_of(sessions, order)) == told_marks(sessions, weaving)


def explains_in(sessions, store, weaving, order):
    """Whether the order explains the weaving in the store."""
    need_weaving(sessions, weaving)
    ordered = weaving_of(sessions, order)
    return _course(sessions, store, weaving) == _course(sessions, store, ordered)


def order_for(sessions, weaving):
    """The least order that explains the weaving for all stores; None if it is missed."""
    need_weaving(sessions, weaving)
    return least_order(marks_of_orders(sessions), told_marks(sessions, weaving))


def miss(sessions, weaving, order):
    """A miss of the order; None if it explains the weaving for all stores."""
    need_weaving(sessions, weaving)
    one, other = told_marks(sessions, weaving), told_marks(sessions, weaving_of(sessions, order))
    # Unlike marks are apart where the store has none of the touched ties, or where it has all of them.
    for there in ([], sessions.touched()):
        found = parted_at(one, other, there)
        if found is not None:
            return found[0], laid(sessions, there, [found])
    return None


def misses(sessions, weaving):
    """The dict from all orders to misses; None if some order explains the weaving for all stores."""
    found = {order: miss(sessions, weaving, order) for order in sessions.orders()}
    if None in list(found.values()):
        return None
    return found


def is_miss(sessions, weaving, order, value):
    """Whether any value is a miss of the order."""
    need_weaving(sessions, weaving)
    weaving_of(sessions, order)
    return _is_miss(sessions, weaving, order, value)


def is_misses(sessions, weaving, value):
    """Whether any value is a dict from all orders to misses."""
    need_weaving(sessions, weaving)
    orders = sessions.orders()
    if not isinstance(value, dict) or len(value) != len(orders):
        return False
    if not all([is_order(order, len(orders[0])) for order in value]):
        return False
    return all([_is_miss(sessions, weaving, order, value[order]) for order in value])


def everywhere(sessions, weaving):
    """For all sets of touched ties the least order for all stores with just these; None if one has none."""
    need_weaving(sessions, weaving)
    told, orders = told_marks(sessions, weaving), marks_of_orders(sessions)
    found = {}
    for there in touched_sets(sessions):
        able = [order for order, marks in orders if parted_at(told, marks, there) is None]
        if not able:
            return None
        found[there] = able[0]
    return found


def against_all(sessions, weaving):
    """A store in which no order explains the weaving; None if it is explained everywhere."""
    need_weaving(sessions, weaving)
    told, orders = told_marks(sessions, weaving), marks_of_orders(sessions)
    for there in touched_sets(sessions):
        places = [parted_at(told, marks, there) for _, marks in orders]
        if None not in places:
            return laid(sessions, there, places)
    return None


def is_against_all(sessions, weaving, value):
    """Whether any value is a store in which no order explains the weaving."""
    need_weaving(sessions, weaving)
    if not isinstance(value, Store) or value.nodes < sessions.nodes:
        return False
    ordered = [weaving_of(sessions, order) for order in sessions.orders()]
    courses = [_course_of(sessions, value, one) for one in [weaving] + ordered]
    return None not in courses and courses[0] not in courses[1:]


def first_missed(sessions):
    """The least missed weaving; None if none is missed."""
    return min(missed_weavings(sessions), default=None)


def how_many_missed(sessions):
    """How many weavings are missed."""
    return len(missed_weavings(sessions))


def order_table(sessions):
    """The dict from all weavings to the least orders that explain them for all stores; None if one is missed."""
    orders = marks_of_orders(sessions)
    found = {weaving: least_order(orders, told_marks(sessions, weaving)) for weaving in weavings(sessions)}
    if None in list(found.values()):
        return None
    return found


def _course(sessions, store, weaving):
    """What all asks hear, and the store at the end."""
    return heard(sessions, store, weaving), behind(sessions, store, weaving)


def _course_of(sessions, store, weaving):
    """The course in a store with enough nodes; None if a line comes to too many ties."""
    try:
        return _course(sessions, store, weaving)
    except TooMany:
        return None


def _is_miss(sessions, weaving, order, value):
    if not isinstance(value, tuple) or len(value) != 2 or not isinstance(value[1], Store):
        return False
    spot, store = value
    if store.nodes < sessions.nodes or not (spot is None or _is_ask(sessions, spot)):
        return False
    one = _course_of(sessions, store, weaving)
    other = _course_of(sessions, store, weaving_of(sessions, order))
    if one is None or other is None:
        return False
    return one[1] != other[1] if spot is None else one[0][spot] != other[0][spot]


def _is_ask(sessions, value):
    """Whether any value is the spot of an ask."""
    if not isinstance(value, tuple) or not all([is_below(part, len(sessions)) for part in value]):
        return False
    return value in sessions.asks()
