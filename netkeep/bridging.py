"""Bridges: which places of a word the words of a list join, with the plans and the cuts that come of it."""

from netkeep.masks import bits, union
from netkeep.ties import is_below, is_list, is_rising
from netkeep.words import is_word


def bridges_in(words, word):
    """The sorted list of the bridges, tuples (place, place, word)."""
    found = []
    for other in words:
        for begin in range(len(word) - len(other) + 1):
            end = begin + len(other)
            if word[begin:end] == other:
                found.append((begin, end, other))
    return sorted(found)


def nearest(words, word):
    """For each place the mask of the places at the other ends of its bridges."""
    near = [0] * (len(word) + 1)
    for begin, end, _ in bridges_in(words, word):
        near[begin] = near[begin] | 1 << end
        near[end] = near[end] | 1 << begin
    return near


def joined(words, word, place):
    """The mask of the places that are joined to a place."""
    near = nearest(words, word)
    found = fresh = 1 << place
    while fresh:
        fresh = union(near, fresh) & ~found
        found = found | fresh
    return found


def settles(words, word):
    """Whether the words settle the word. The empty one, whose only place is its last one, is always settled."""
    return joined(words, word, 0) >> len(word) & 1 == 1


def steps_from(words, word, place):
    """The sorted list of the steps from a place."""
    bridges = bridges_in(words, word)
    forth = [(place, other, end) for begin, end, other in bridges if begin == place]
    back = [(place, other, begin) for begin, end, other in bridges if end == place]
    return sorted(forth + back)


def least_plan(words, word):
    """Of the plans with the fewest steps the least list; None if there is none."""
    far = _far(nearest(words, word), len(word))
    if 0 not in far:
        return None
    place = 0
    steps = []
    while place != len(word):
        left = far[place] - 1
        steps.append(min([step for step in steps_from(words, word, place) if far[step[2]] == left]))
        place = steps[-1][2]
    return steps


def fits_plan(words, word, value):
    """Whether any value is a plan of the word."""
    if not is_list(value):
        return False
    place = 0
    for step in value:
        if not _fits_step(word, step) or step not in steps_from(words, word, place):
            return False
        place = step[2]
    return place == len(word)


def least_cut(words, word):
    """The cut of the fewest places; None if there is none."""
    places = joined(words, word, 0)
    if places >> len(word) & 1:
        return None
    return bits(places)


def most_cut(words, word):
    """The cut of the most places; None if there is none."""
    places = joined(words, word, len(word))
    if places & 1:
        return None
    return [place for place in range(len(word)) if not places >> place & 1]


def fits_cut(words, word, value):
    """Whether any value is a cut of the word."""
    if not is_list(value) or not all([is_below(place, len(word)) for place in value]):
        return False
    if not is_rising(value) or 0 not in value:
        return False
    return all([(begin in value) == (end in value) for begin, end, _ in bridges_in(words, word)])


def _fits_step(word, value):
    if not isinstance(value, tuple) or len(value) != 3 or not is_word(value[1]):
        return False
    return is_below(value[0], len(word) + 1) and is_below(value[2], len(word) + 1)


def _far(near, goal):
    """For each place that is joined to the goal the fewest steps that it takes."""
    far = {goal: 0}
    queue = [goal]
    at = 0
    while at < len(queue):
        here = queue[at]
        for place in bits(near[here]):
            if place not in far:
                far[place] = far[here] + 1
                queue.append(place)
        at += 1
    return far
