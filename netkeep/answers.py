"""Answers of words in stores, and what can be made of relations and matrices."""

from netkeep.checks import need_node, need_nodes, need_telling, need_word
from netkeep.errors import InvalidMatrix, InvalidRelation
from netkeep.masks import back_rows, couples_of, goal_rows, least_bit, led, rows_of, source_rows, union
from netkeep.ties import is_below, is_list, is_pair
from netkeep.words import is_count


def pairs(store, word):
    """The relation of the pairs (x, y) such that a walk with the word leads from x to y."""
    need_word(word)
    goals = goal_rows(store.nodes, store.ties())
    return couples_of([led(goals, 1 << x, word) for x in range(store.nodes)])


def counts(store, word):
    """The matrix of how many walks with the word lead from each node to each one."""
    need_word(word)
    return [_walks_from(store, word, x) for x in range(store.nodes)]


def answer(store, word, telling):
    """The answer of the word in this telling."""
    need_word(word)
    need_telling(telling)
    if telling == "whether":
        return pairs(store, word)
    return counts(store, word)


def walk(store, word, start, end):
    """The least list that is a walk with the word from start to end; None if there is none."""
    _need_ends(store, word, start, end)
    goals = goal_rows(store.nodes, store.ties())
    sources = source_rows(store.nodes, store.ties())
    able = [1 << end]
    for letter in word[::-1]:
        able.append(union(sources[letter], able[-1]))
    if not able[-1] >> start & 1:
        return None
    nodes = [start]
    for letter, mask in zip(word, able[-2::-1]):
        nodes.append(least_bit(goals[letter][nodes[-1]] & mask))
    return nodes


def is_walk(store, word, value):
    """Whether any value is a walk with the word."""
    need_word(word)
    if not is_list(value) or len(value) != len(word) + 1:
        return False
    if not all([is_below(node, store.nodes) for node in value]):
        return False
    return all([store.has((value[at], letter, value[at + 1])) for at, letter in enumerate(word)])


def many_walks(store, word, start, end):
    """How many walks with the word lead from start to end."""
    _need_ends(store, word, start, end)
    return _walks_from(store, word, start)[end]


def is_relation(nodes, value):
    """Whether any value is a relation of so many nodes."""
    need_nodes(nodes)
    if not is_list(value) or not all([is_pair(pair, nodes) for pair in value]):
        return False
    return all([pair < further for pair, further in zip(value, value[1:])])


def is_matrix(nodes, value):
    """Whether any value is a matrix of so many nodes."""
    need_nodes(nodes)
    if not is_list(value) or len(value) != nodes:
        return False
    return all([_is_line(nodes, line) for line in value])


def product(nodes, one, other):
    """The product of two relations."""
    _need_relations(nodes, one, other)
    further = rows_of(nodes, other)
    return couples_of([union(further, mask) for mask in rows_of(nodes, one)])


def back(nodes, one, other):
    """One relation back over the other one."""
    _need_relations(nodes, one, other)
    return couples_of(back_rows(rows_of(nodes, one), rows_of(nodes, other)))


def is_within(nodes, one, other):
    """Whether all pairs of one relation are in the other one."""
    _need_relations(nodes, one, other)
    there = {pair: True for pair in other}
    return all([pair in there for pair in one])


def count_product(nodes, one, other):
    """The product of two matrices."""
    for value in (one, other):
        if not is_matrix(nodes, value):
            raise InvalidMatrix(value)
    return [[sum([line[z] * other[z][y] for z in range(nodes)]) for y in range(nodes)] for line in one]


def unit(nodes, telling):
    """The relation of all (x, x), or the matrix with 1 at these and 0 elsewhere."""
    need_nodes(nodes)
    need_telling(telling)
    if telling == "whether":
        return [(x, x) for x in range(nodes)]
    return [[int(x == y) for y in range(nodes)] for x in range(nodes)]


def _need_ends(store, word, start, end):
    need_word(word)
    need_node(start, store.nodes)
    need_node(end, store.nodes)


def _need_relations(nodes, one, other):
    for value in (one, other):
        if not is_relation(nodes, value):
            raise InvalidRelation(value)


def _is_line(nodes, value):
    return is_list(value) and len(value) == nodes and all([is_count(number) for number in value])


def _walks_from(store, word, start):
    """For each node how many walks with the word lead to it from the start."""
    many = [int(node == start) for node in range(store.nodes)]
    for letter in word:
        further = [0] * store.nodes
        for x, sign, y in store.ties():
            if sign == letter:
                further[y] = further[y] + many[x]
        many = further
    return many
