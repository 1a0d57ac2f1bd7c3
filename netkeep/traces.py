"""Traces as papers, and the search for ties that can be struck."""

from netkeep.filling import trace_in
from netkeep.ties import is_below, is_list, is_tie


def traced(nodes, ties, rules, value):
    """The list of the ties of the lines of any value, if it is a trace in a store with such ties; None."""
    if not is_list(value):
        return None
    there = {tie: True for tie in ties}
    found = []
    for line in value:
        if not _is_line(nodes, len(found), line) or not _stands(there, rules, found, line):
            return None
        found.append(line[0])
    return found


def _is_line(nodes, many, value):
    if not isinstance(value, tuple) or len(value) != 2 or not is_tie(value[0], nodes):
        return False
    return is_list(value[1]) and all([is_below(position, many) for position in value[1]])


def _stands(there, rules, ahead, line):
    """Whether a line's tie is there, or a rule puts it in by the lines of its positions."""
    tie, positions = line
    if not positions:
        return tie in there
    taken = [ahead[position] for position in positions]
    word = "".join([letter for _, letter, _ in taken])
    return (word, tie[1]) in rules and go_on(taken, tie[0], tie[2])


def go_on(ties, start, end):
    """Whether one or more ties go on one from the end of the other, from start to end."""
    ends = [start] + [tie[2] for tie in ties]
    return [tie[0] for tie in ties] == ends[:-1] and ends[-1] == end


def leaves_of(lines):
    """The sorted list of the unlike ties of all lines without positions."""
    return sorted({tie for tie, positions in lines if not positions})


class Traces:
    """Traces of one tie in a store of which some ties are struck."""

    def __init__(self, store, rules, goal):
        self._nodes = store.nodes
        self._ties = store.ties()
        self._rules = rules
        self._goal = goal
        self._known = []

    def without(self, struck):
        """A trace in the store without the struck ties; None if there is none."""
        # A trace found for other struck ties does as well if none of its leaves is struck now.
        for lines, leaves in self._known:
            if not any([tie in leaves for tie in struck]):
                return lines
        lines = trace_in(self._nodes, self.left(struck), self._rules, self._goal)
        if lines is not None:
            self._known.append((lines, {tie: True for tie in leaves_of(lines)}))
        return lines

    def left(self, struck):
        """The ties that are left."""
        gone = {tie: True for tie in struck}
        return [tie for tie in self._ties if tie not in gone]

    def first_needed(self, struck, some):
        """The first of some ties without which, as well, there is no trace; None if there is none."""
        if not some or self.without(struck + some) is not None:
            return None
        if len(some) == 1:
            return some[0]
        half = len(some) // 2
        first = self.first_needed(struck, some[:half])
        if first is not None:
            return first
        return self.first_needed(struck, some[half:])

    def tree(self, struck, number):
        """A strike tree against the number in the store without the struck ties; None if there is none."""
        lines = self.without(struck)
        if lines is None:
            return None
        branches = {}
        if number > 0:
            leaves = leaves_of(lines)
            # A trace that shares no leaf with this one, if there is one, spares a search for each leaf.
            self.without(struck + leaves)
            for leaf in leaves:
                branches[leaf] = self.tree(struck + [leaf], number - 1)
                if branches[leaf] is None:
                    return None
        return lines, branches


def is_tree(nodes, ties, rules, goal, number, value):
    """Whether any value is a strike tree of the goal against the number, in a store with such ties."""
    if not isinstance(value, tuple) or len(value) != 2 or not isinstance(value[1], dict):
        return False
    lines, branches = value
    found = traced(nodes, ties, rules, lines)
    if not found or found[-1] != goal:
        return False
    if number == 0:
        return not branches
    if not all([is_tie(leaf, nodes) for leaf in branches]) or sorted(branches) != leaves_of(lines):
        return False
    for leaf in leaves_of(lines):
        left = [tie for tie in ties if tie != leaf]
        if not is_tree(nodes, left, rules, goal, number - 1, branches[leaf]):
            return False
    return True
