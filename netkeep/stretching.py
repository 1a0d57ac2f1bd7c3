"""Stretches of words for a letter, and what walks along a new tie of this letter add to an answer."""

from netkeep.answers import is_matrix, is_relation
from netkeep.words import by_length


def places_of(word, letter):
    """The positions of the letter in the word, rising."""
    return [place for place, other in enumerate(word) if other == letter]


def spans(word, letter):
    """The sorted list of the places, tuples (begin, end), between which a stretch of the word stands."""
    places = places_of(word, letter)
    begins = [0] + [place + 1 for place in places]
    ends = places + [len(word)]
    return [(begin, end) for begin in begins for end in ends if begin <= end and end - begin < len(word)]


def stretches_of(word, letter):
    """The unlike stretches of the word, the empty one first, then as words are sorted."""
    return by_length(list({word[begin:end]: True for begin, end in spans(word, letter)}))


def left_by(word, places):
    """The stretches that a choice leaves: up to its first position, between neighbours, behind the last one."""
    ends = list(places) + [len(word)]
    begins = [0] + [place + 1 for place in places]
    return [word[begin:end] for begin, end in zip(begins, ends)]


def is_answer(nodes, value, telling):
    """Whether any value is an answer of so many nodes in this telling."""
    if telling == "whether":
        return is_relation(nodes, value)
    return is_matrix(nodes, value)


def grid_of(nodes, answer, telling):
    """The answer as a matrix: a relation has 1 at its pairs, 0 elsewhere."""
    if telling == "many":
        return [list(line) for line in answer]
    grid = [[0] * nodes for _ in range(nodes)]
    for x, y in answer:
        grid[x][y] = 1
    return grid


def answer_of(grid, telling):
    """The answer that a matrix stands for: a relation has the pairs at which it is above 0."""
    if telling == "many":
        return grid
    return [(x, y) for x, line in enumerate(grid) for y, number in enumerate(line) if number > 0]


def unit_grid(nodes):
    """The matrix of the empty stretch."""
    return [[int(x == y) for y in range(nodes)] for x in range(nodes)]


def part_grid(word, places, tie, grids):
    """The matrix of the part of one choice, by the matrices of the stretches that it leaves."""
    x, _, y = tie
    first, *between, last = [grids[stretch] for stretch in left_by(word, places)]
    many = 1
    for grid in between:
        many = many * grid[y][x]
    return [[line[x] * many * number for number in last[y]] for line in first]


def all_parts(word, tie, grids, nodes):
    """The sum of the matrices of the parts of all choices, by the matrices of all stretches."""
    x, letter, y = tie
    places = places_of(word, letter)
    total = [[0] * nodes for _ in range(nodes)]
    # For each position: from each node, in how many ways walks come to it, to go along the tie there next.
    ways = {}
    for place in places:
        ways[place] = [line[x] for line in grids[word[:place]]]
        for ahead in places:
            if ahead < place:
                many = grids[word[ahead + 1:place]][y][x]
                ways[place] = [one + many * other for one, other in zip(ways[place], ways[ahead])]
        behind = grids[word[place + 1:]][y]
        total = [[one + way * other for one, other in zip(line, behind)] for line, way in zip(total, ways[place])]
    return total
