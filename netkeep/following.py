"""Which leaves of a tree follow which ones, and the question that comes of it."""

from netkeep.questions import Question
from netkeep.trees import leaf_signs


def question_by_leaves(tree):
    """The question of a tree: its standings are 0 and the leaves, those that go on alike joined."""
    signs = [""] + leaf_signs(tree)
    many, begins, ends, follows, empty = _traits(tree, 0)
    links = {couple: True for couple in [(0, leaf) for leaf in begins] + follows}
    steps = [(leaf, signs[further], further) for leaf, further in links]
    ends = ends + [0] if empty else ends
    classes = _classes(many + 1, steps, ends)
    joined = {(classes[leaf], sign, classes[further]): True for leaf, sign, further in steps}
    return Question(max(classes) + 1, list(joined), sorted({classes[end] for end in ends}))


def _traits(tree, ahead):
    """How many leaves a tree has, with which it begins and ends, which follow which, and whether it may be empty.

    Its leaves are numbered behind those ahead of it.
    """
    if isinstance(tree, str):
        return 1, [ahead + 1], [ahead + 1], [], False
    many, begins, ends, follows, empty = _traits(tree[1], ahead)
    if tree[0] == "again":
        return many, begins, ends, follows + _all_couples(ends, begins), empty
    if tree[0] == "perhaps":
        return many, begins, ends, follows, True
    others, first, last, further, hollow = _traits(tree[2], ahead + many)
    if tree[0] == "or":
        return many + others, begins + first, ends + last, follows + further, empty or hollow
    follows = follows + further + _all_couples(ends, first)
    begins = begins + first if empty else begins
    ends = ends + last if hollow else last
    return many + others, begins, ends, follows, empty and hollow


def _all_couples(ones, others):
    return [(one, other) for one in ones for other in others]


def _classes(many, steps, ends):
    """For each standing the number of its class, numbered in the sequence of their least members."""
    classes = _by_first([int(standing in ends) for standing in range(many)])
    further = _parted(classes, steps)
    while max(further) > max(classes):
        classes = further
        further = _parted(classes, steps)
    return classes


def _parted(classes, steps):
    """The classes, of which those are parted whose standings lead by some sign to unlike classes."""
    goals = [[] for _ in classes]
    for standing, sign, goal in steps:
        goals[standing].append((sign, classes[goal]))
    return _by_first([(number, tuple(sorted(set(told)))) for number, told in zip(classes, goals)])


def _by_first(looks):
    """Numbers for looks, in the sequence in which unlike ones come first."""
    numbers = {}
    return [numbers.setdefault(look, len(numbers)) for look in looks]
