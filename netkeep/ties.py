"""Which values are nodes, ties and lists without repeats."""

from netkeep.words import is_integer, is_letter


def is_list(value):
    """Whether it stands for a list: a tuple does as well."""
    return isinstance(value, (list, tuple))


def is_below(value, many):
    """Whether it is an integer from 0 on that is less than the number: a node of so many, for example."""
    return is_integer(value) and 0 <= value < many


def is_tie(value, nodes):
    """Whether it is a tuple (node, letter, node) between so many nodes."""
    if not isinstance(value, tuple) or len(value) != 3:
        return False
    return is_below(value[0], nodes) and is_letter(value[1]) and is_below(value[2], nodes)


def is_pair(value, many):
    """Whether it is a tuple of two integers from 0 on that are less than the number."""
    return isinstance(value, tuple) and len(value) == 2 and is_below(value[0], many) and is_below(value[1], many)


def is_order(value, many):
    """Whether it is a list of all numbers from 0 on that are less than the number, each once."""
    if not is_list(value) or not all([is_below(place, many) for place in value]):
        return False
    return sorted(value) == list(range(many))


def is_rising(values):
    """Whether each value is greater than the one ahead of it."""
    return all([value < further for value, further in zip(values, values[1:])])


def first_wrong(values, fits):
    """The position of the first value that does not fit, as told for each, or stands ahead; None without one."""
    ahead = {}
    for position, value in enumerate(values):
        if not fits[position] or value in ahead:
            return position
        ahead[value] = True
    return None


def linked(links, some):
    """The sorted list of all that is come to from some by tuples (from, to), one behind another, perhaps by none."""
    found = {place: True for place in some}
    queue = list(some)
    while queue:
        here = queue.pop()
        for place, goal in links:
            if place == here and goal not in found:
                found[goal] = True
                queue.append(goal)
    return sorted(found)
