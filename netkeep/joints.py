"""Joints of lines in sessions: which ones keep weavings from being missed, and what they cost."""

from netkeep.checks import need_number
from netkeep.choosing import choices_of, price_of
from netkeep.errors import InvalidPrices
from netkeep.faults import InvalidJoints
from netkeep.hearing import missed_weavings
from netkeep.ties import first_wrong, is_below, is_list
from netkeep.weaving import is_weaving, need_weaving, way_of
from netkeep.words import is_count


def joints(sessions):
    """The sorted list of all joints."""
    return [(number, at) for number, program in enumerate(sessions.programs()) for at in range(len(program) - 1)]


def keeps(sessions, weaving, some):
    """Whether the weaving keeps all of these joints."""
    need_weaving(sessions, weaving)
    _need_joints(sessions, some)
    return _keeps(_parted(sessions, weaving), some)


def are_enough(sessions, some):
    """Whether no missed weaving keeps all of these joints."""
    _need_joints(sessions, some)
    return _are_enough(_missed(sessions), some)


def least_joints(sessions):
    """The sorted list of all least lists of enough joints."""
    found = []
    # Shorter ones come first, and what has enough joints within it is not least.
    for some in _all_enough(sessions):
        if not any([all([joint in some for joint in less]) for less in found]):
            found.append(some)
    return sorted(found)


def cheapest_joints(sessions, prices):
    """The price of the cheapest enough joints, and the first list of enough joints that has it."""
    _need_prices(sessions, prices)
    return min([(price_of(prices, some), some) for some in _all_enough(sessions)])


def tree_of_misses(sessions, prices, number):
    """A tree of misses for the number; None if some enough joints cost at most it."""
    _need_prices(sessions, prices)
    need_number(number)
    return _tree(_missed(sessions), prices, number, [], [])


def is_tree_of_misses(sessions, prices, number, value):
    """Whether any value is a tree of misses for the number."""
    _need_prices(sessions, prices)
    need_number(number)
    return _is_tree(sessions, missed_weavings(sessions), prices, number, [], [], value)


def _need_joints(sessions, some):
    if not is_list(some):
        raise InvalidJoints(None)
    wrong = first_wrong(some, [_is_joint(sessions, joint) for joint in some])
    if wrong is not None:
        raise InvalidJoints(wrong)


def _is_joint(sessions, value):
    if not isinstance(value, tuple) or not all([is_below(part, len(sessions)) for part in value]):
        return False
    return value in joints(sessions)


def _need_prices(sessions, prices):
    if not isinstance(prices, dict) or len(prices) != len(joints(sessions)):
        raise InvalidPrices(prices)
    if not all([_is_joint(sessions, joint) and is_count(prices[joint]) for joint in prices]):
        raise InvalidPrices(prices)


def _parted(sessions, weaving):
    """The sorted tuple of the joints that the weaving parts."""
    way = way_of(weaving)
    kept = [here for here, further in zip(way, way[1:]) if here[0] == further[0]]
    return tuple([joint for joint in joints(sessions) if joint not in kept])


def _keeps(parted, some):
    """Whether a weaving that parts the told joints keeps all of some."""
    return not any([joint in parted for joint in some])


def _missed(sessions):
    """For each set of joints that missed weavings part such a weaving."""
    return {_parted(sessions, weaving): weaving for weaving in missed_weavings(sessions)}


def _are_enough(missed, some):
    return not any([_keeps(parted, some) for parted in missed])


def _all_enough(sessions):
    """All sorted lists of joints that are enough, shorter ones first."""
    able, missed = joints(sessions), _missed(sessions)
    choices = [[able[at] for at in choice] for choice in choices_of(len(able))]
    return [some for some in choices if _are_enough(missed, some)]


def _open_joints(parted, prices, number, given_up):
    """The sorted list of the parted joints that are not given up, and cost at most the number."""
    return [joint for joint in parted if joint not in given_up and prices[joint] <= number]


def _tree(missed, prices, number, taken, given_up):
    """A tree where some joints are taken and some are given up; None if enough joints go with these."""
    able = [parted for parted in missed if _keeps(parted, taken)]
    if not able:
        return None
    trees = {}
    for joint in _open_joints(able[0], prices, number, given_up):
        # Those ahead of it in the dict are the lesser ones.
        tree = _tree(missed, prices, number - prices[joint], taken + [joint], given_up + list(trees))
        if tree is None:
            return None
        trees[joint] = tree
    return missed[able[0]], trees


def _is_tree(sessions, missed, prices, number, taken, given_up, value):
    """Whether any value is a tree where some joints are taken and some are given up, by all missed weavings."""
    if not isinstance(value, tuple) or len(value) != 2 or not isinstance(value[1], dict):
        return False
    weaving, trees = value
    if not is_weaving(sessions, weaving) or weaving not in missed:
        return False
    parted = _parted(sessions, weaving)
    if not _keeps(parted, taken) or not all([_is_joint(sessions, joint) for joint in trees]):
        return False
    wanted = _open_joints(parted, prices, number, given_up)
    if sorted(trees) != wanted:
        return False
    for at, joint in enumerate(wanted):
        left, ahead = number - prices[joint], given_up + wanted[:at]
        if not _is_tree(sessions, missed, prices, left, taken + [joint], ahead, trees[joint]):
            return False
    return True
