"""What the tests of sayings and code share: trees as the random source tells, and slow, plain ways with pairs."""

from support import SIGNS

TWO, ONE = ("then", "or"), ("again", "perhaps")


def some_tree(rng, leaves, signs="abAB", more=0.3):
    """A tree with so many leaves, as the random source tells."""
    if leaves == 1:
        tree = rng.choice(signs)
    else:
        many = rng.randint(1, leaves - 1)
        tree = (rng.choice(TWO), some_tree(rng, many, signs, more), some_tree(rng, leaves - many, signs, more))
    while rng.random() < more:
        tree = (rng.choice(ONE), tree)
    return tree


def small_tree(rng, most=8, signs="abAB", more=0.3):
    """A tree within the limits of a saying."""
    while True:
        tree = some_tree(rng, rng.randint(1, most), signs, more)
        if parts_of(tree) <= 15:
            return tree


def is_tree(value):
    """Whether a value is a tree."""
    if type(value) is str:
        return len(value) == 1 and value in SIGNS
    if type(value) is not tuple or not value or type(value[0]) is not str:
        return False
    if value[0] not in TWO + ONE or len(value) != (3 if value[0] in TWO else 2):
        return False
    return all(is_tree(part) for part in value[1:])


def parts_of(tree):
    """How many parts a tree has."""
    return 1 if isinstance(tree, str) else 1 + sum(parts_of(part) for part in tree[1:])


def leaves_of(tree):
    """The list of the signs."""
    return [tree] if isinstance(tree, str) else [sign for part in tree[1:] for sign in leaves_of(part)]


def text_of(tree):
    """The text of a tree."""
    if isinstance(tree, str):
        return tree
    if tree[0] in ONE:
        return f"({tree[0]} {text_of(tree[1])})"
    return f"({text_of(tree[1])} {tree[0]} {text_of(tree[2])})"


def joined(one, other):
    """The product of two sets of pairs."""
    return {(x, y) for x, z in one for w, y in other if z == w}


def backed(nodes, one, other):
    """One set of pairs back over another one."""
    return {(x, w) for x in range(nodes) for w in range(nodes)
            if all((x, z) in one for z in range(nodes) if (w, z) in other)}


def again(pairs):
    """All that one or more pairs, one behind another, lead to."""
    while joined(pairs, pairs) - pairs:
        pairs = pairs | joined(pairs, pairs)
    return pairs


def signed(ties, sign):
    """The pairs of a sign."""
    if sign.islower():
        return {(x, y) for x, letter, y in ties if letter == sign}
    return {(y, x) for x, letter, y in ties if letter == sign.lower()}


def slow_said(nodes, ties, tree):
    """The answer of a tree, as a set of pairs."""
    if isinstance(tree, str):
        return signed(ties, tree)
    parts = [slow_said(nodes, ties, part) for part in tree[1:]]
    if tree[0] == "then":
        return joined(*parts)
    if tree[0] == "or":
        return parts[0] | parts[1]
    return again(parts[0]) if tree[0] == "again" else parts[0] | {(x, x) for x in range(nodes)}


def slow_empty(tree):
    """Whether a tree may be empty: whether it has all (x, x) in a store without ties."""
    return slow_said(1, set(), tree) == {(0, 0)}


def turned(tree):
    """The tree the other way round."""
    if isinstance(tree, str):
        return tree.swapcase()
    parts = [turned(part) for part in tree[1:]]
    return (tree[0], *(reversed(parts) if tree[0] == "then" else parts))


def slow_standings(tree):
    """The standings of a tree's question, as the point says: (ends, steps) ahead of all joining."""
    number = iter(range(1, 100))

    def traits(part):
        if isinstance(part, str):
            leaf = next(number)
            signs[leaf] = part
            return {leaf}, {leaf}, set(), False
        told = [traits(inner) for inner in part[1:]]
        begins, ends, follows, empty = told[0]
        if part[0] == "again":
            return begins, ends, follows | {(end, first) for end in ends for first in begins}, empty
        if part[0] == "perhaps":
            return begins, ends, follows, True
        first, last, further, hollow = told[1]
        if part[0] == "or":
            return begins | first, ends | last, follows | further, empty or hollow
        return (begins | first if empty else begins, last | ends if hollow else last,
                follows | further | {(end, one) for end in ends for one in first}, empty and hollow)

    signs = {}
    begins, ends, follows, empty = traits(tree)
    steps = {(0, signs[leaf], leaf) for leaf in begins} | {(one, signs[other], other) for one, other in follows}
    return len(signs) + 1, steps, ends | ({0} if empty else set())


def slow_question(tree):
    """The standings, steps and ends of a tree's question, classes parted pair by pair."""
    many, steps, ends = slow_standings(tree)
    alike = {(p, q) for p in range(many) for q in range(many) if (p in ends) == (q in ends)}

    def leads(p, sign, q):
        return any((one, other) in alike for one in [g for s, way, g in steps if s == p and way == sign]
                   for other in [q])

    def parted(p, q):
        for s, sign, goal in steps:
            if s == p and not leads(q, sign, goal) or s == q and not leads(p, sign, goal):
                return True
        return False

    while True:
        worse = {(p, q) for p, q in alike if parted(p, q)}
        if not worse:
            break
        alike -= worse
    least = [min(q for q in range(many) if (p, q) in alike) for p in range(many)]
    number = {one: place for place, one in enumerate(sorted(set(least)))}
    told = sorted({(number[least[p]], sign, number[least[q]]) for p, sign, q in steps})
    return len(number), told, sorted({number[least[end]] for end in ends})
