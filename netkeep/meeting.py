"""Tables that tell for each key, a mark or several ones, to which key each deed leads."""


def met_in(rows, first):
    """The keys that are come to from the first one, in the sequence in which they are met, key by key."""
    found = [first]
    there = {first: True}
    at = 0
    while at < len(found):
        for goal in rows[found[at]]:
            if goal not in there:
                there[goal] = True
                found.append(goal)
        at += 1
    return found


def numbered(rows, met):
    """The table of the keys that are met, each called by its number among them."""
    numbers = {key: number for number, key in enumerate(met)}
    return [[numbers[goal] for goal in rows[key]] for key in met]


def ways_in(table):
    """For each mark that is come to from mark 0 the least one of the shortest lists of deeds that lead to it."""
    ways = {0: []}
    queue = [0]
    at = 0
    while at < len(queue):
        here = queue[at]
        for deed, goal in enumerate(table[here]):
            if goal not in ways:
                ways[goal] = ways[here] + [deed]
                queue.append(goal)
        at += 1
    return ways


def partings_in(table, counting):
    """For each two marks that are not alike the least one of the shortest lists of deeds that part them."""
    marks = range(len(table))
    couples = [(one, other) for one in marks for other in marks]
    found = {couple: [] for couple in couples if counting[couple[0]] != counting[couple[1]]}
    fresh = list(found)
    while fresh:
        further = {}
        for couple in couples:
            if couple not in found:
                way = _first_way(table, found, couple)
                if way is not None:
                    further[couple] = way
        fresh = list(further)
        found = {**found, **further}
    return found


def _first_way(table, found, couple):
    """The least way on from two marks to two that are parted; None if no deed leads to such."""
    one, other = couple
    for deed, goals in enumerate(zip(table[one], table[other])):
        if goals in found:
            return [deed] + found[goals]
    return None


def looks_in(table, counting):
    """For each mark the least mark that is alike to it."""
    apart = partings_in(table, counting)
    marks = range(len(table))
    return [min([other for other in marks if (mark, other) not in apart]) for mark in marks]
