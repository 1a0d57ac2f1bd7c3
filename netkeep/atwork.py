"""Plans at work: what they tell of a word by kept answers."""

from netkeep.answers import back, product, unit
from netkeep.bridging import least_plan
from netkeep.errors import NoMatrices, TooMany
from netkeep.solving import Rows, fractions_of, lowest, plus, summed, times

MOST_NODES_BACK = 8


def told_by(words, word, nodes, kept, telling):
    """What kept answers tell of a word that the words settle."""
    steps = least_plan(words, word)
    if telling == "whether":
        return relations_at_work(steps, nodes, kept)[-1]
    need_few_nodes(steps, nodes)
    found = stages(steps, nodes, kept)
    if found is None:
        raise NoMatrices()
    rows, free = found[-1]
    if free or any([below > 1 or min(numbers) < 0 for numbers, below in rows]):
        raise NoMatrices()
    return [list(numbers) for numbers, _ in rows]


def relations_at_work(steps, nodes, kept):
    """The relations of a plan at work: the one ahead of its steps, and one behind each."""
    found = [unit(nodes, "whether")]
    for begin, word, end in steps:
        if begin < end:
            found.append(product(nodes, found[-1], kept[word]))
        else:
            found.append(back(nodes, found[-1], kept[word]))
    return found


def need_few_nodes(steps, nodes):
    """Refuse many nodes where a plan has a step back."""
    if nodes > MOST_NODES_BACK and any([end < begin for begin, _, end in steps]):
        raise TooMany("nodes", MOST_NODES_BACK)


def stages(steps, nodes, kept):
    """All matrices that papers can have ahead of the steps, and behind each one; None if there is no paper.

    They are told by a tuple (rows, free): the fraction rows of one of them, and rows of integers whose
    multiples and sums can be added to any row of it.
    """
    found = [([(line, 1) for line in unit(nodes, "many")], [])]
    for begin, word, end in steps:
        here = _forth(nodes, found[-1], kept[word]) if begin < end else _back(nodes, found[-1], kept[word])
        if here is None:
            return None
        found.append(here)
    return found


def _forth(nodes, ahead, matrix):
    rows, free = ahead
    moved = Rows([summed(line, matrix, nodes) for line in free], nodes)
    return [times(row, matrix, nodes) for row in rows], moved.apart


def _back(nodes, ahead, matrix):
    rows, free = ahead
    # A row behind, times the matrix, is one ahead and some of the free ones.
    together = Rows(list(matrix) + free, nodes)
    found = [together.combination(row) for row in rows]
    if None in found:
        return None
    rows = [lowest(numbers[:nodes], below) for numbers, below in found]
    return rows, [line[:nodes] for line in together.nothing]


def paper_of(steps, nodes, kept, found):
    """The count paper that ends with the last matrix of the stages."""
    rows = found[-1][0]
    papers = [rows]
    for (begin, word, end), ahead in zip(steps[::-1], found[-2::-1]):
        if end < begin:
            rows = [times(row, kept[word], nodes) for row in rows]
        else:
            rows = _led_forth(nodes, ahead, kept[word], rows)
        papers.append(rows)
    return [[fractions_of(row) for row in some] for some in papers[::-1]]


def _led_forth(nodes, ahead, matrix, goals):
    """Fraction rows, of those that can be ahead, which the matrix leads to the goals."""
    rows, free = ahead
    moved = Rows([summed(line, matrix, nodes) for line in free], nodes)
    found = []
    for row, goal in zip(rows, goals):
        share = moved.combination(plus(goal, times(row, matrix, nodes), -1))
        found.append(plus(row, times(share, free, nodes)))
    return found
