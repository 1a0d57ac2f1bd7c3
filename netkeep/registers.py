"""Registers: how few of them code of a saying needs, how many are in use, and packed code."""

from netkeep.code import Code
from netkeep.coding import MOST_REGISTERS, first_kind, read_by, sources_of


def numbers(saying):
    """The numbers of the parts, each behind its own parts, the one's ahead of the other's."""
    return _numbers(saying.shape)


def number_of(saying):
    """The number of the saying."""
    return _number(saying.shape)


def code_of(saying):
    """Code of the saying that writes just as many registers as its number."""
    return Code(_lines(saying.shape, list(range(_number(saying.shape)))))


def is_code_of(saying, value):
    """Whether any value is code of the saying."""
    if not isinstance(value, Code):
        return False
    lines, sources = value.lines(), sources_of(value.lines())
    if first_kind(lines, ("keep", "back")) is not None:
        return False
    if sorted([source for some in sources for source in some]) != list(range(len(lines) - 1)):
        return False
    # As each table but the last is read once, the trees together have no more parts than there are lines.
    trees = []
    for line, some in zip(lines, sources):
        trees.append((line[0], *[trees[source] for source in some]) if some else line[2])
    return trees[-1] == saying.shape


def in_use(code):
    """For each line how many tables are in use behind it."""
    last = _last_reads(code.lines())
    return [len(_held(last, position)) + 1 for position in range(len(last))]


def fewest_registers(code):
    """The greatest number of tables that are in use behind a line."""
    return max(in_use(code))


def fullest(code):
    """The first position behind which as many tables are in use."""
    many = in_use(code)
    return many.index(max(many))


def packed(code):
    """The same lines, each with the least register that holds no other table in use behind it."""
    lines, sources = code.lines(), sources_of(code.lines())
    last = _last_reads(lines)
    written = []
    found = []
    for position, line in enumerate(lines):
        taken = [written[ahead] for ahead in _held(last, position)]
        written.append(min([place for place in range(MOST_REGISTERS) if place not in taken]))
        read = [written[source] for source in sources[position]] if read_by(line) else [line[2]]
        found.append((line[0], written[-1], *read))
    return Code(found)


def _numbers(tree):
    if isinstance(tree, str):
        return [1]
    one = _numbers(tree[1])
    if len(tree) == 2:
        return one + one[-1:]
    other = _numbers(tree[2])
    return one + other + [max(one[-1], other[-1]) + int(one[-1] == other[-1])]


def _number(tree):
    return _numbers(tree)[-1]


def _lines(tree, places):
    """Lines that leave what a tree tells in the first one of the registers, and write these alone."""
    here = places[0]
    if isinstance(tree, str):
        return [("load", here, tree)]
    if len(tree) == 2:
        return _lines(tree[1], places) + [(tree[0], here, here)]
    kind, one, other = tree
    # What needs more registers comes first: the other one has one less, as this one's table holds one.
    if _number(one) >= _number(other):
        return _lines(one, places) + _lines(other, places[1:]) + [(kind, here, here, places[1])]
    return _lines(other, places) + _lines(one, places[1:]) + [(kind, here, places[1], here)]


def _last_reads(lines):
    """For each line the position of the last line that reads its table, its own one if none does."""
    last = list(range(len(lines)))
    for position, some in enumerate(sources_of(lines)):
        for source in some:
            last[source] = position
    return last


def _held(last, position):
    """The positions ahead of a line whose tables a later line reads."""
    return [ahead for ahead in range(position) if last[ahead] > position]
