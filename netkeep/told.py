"""What kept answers tell of a settled word, and the papers of it."""

from math import gcd

from netkeep.atwork import need_few_nodes, paper_of, relations_at_work, stages, told_by
from netkeep.bridging import least_plan, settles
from netkeep.checks import need_word
from netkeep.errors import InvalidKept, NotSettled
from netkeep.lots import is_kept
from netkeep.solving import fraction_row, times
from netkeep.ties import is_list
from netkeep.words import is_integer


def told(lot, word, nodes, kept, telling):
    """What is told of the word by the kept answers."""
    _need_kept(lot, word, nodes, kept, telling)
    return told_by(lot.words(), word, nodes, kept, telling)


def tables(lot, word, nodes, kept):
    """The relations of the plan at work."""
    _need_kept(lot, word, nodes, kept, "whether")
    return relations_at_work(least_plan(lot.words(), word), nodes, kept)


def count_paper(lot, word, nodes, kept):
    """A count paper of the plan; None if there is none."""
    _need_kept(lot, word, nodes, kept, "many")
    steps = least_plan(lot.words(), word)
    need_few_nodes(steps, nodes)
    found = stages(steps, nodes, kept)
    if found is None:
        return None
    return paper_of(steps, nodes, kept, found)


def is_count_paper(lot, word, nodes, kept, value):
    """Whether any value is a count paper of the plan."""
    _need_kept(lot, word, nodes, kept, "many")
    steps = least_plan(lot.words(), word)
    if not is_list(value) or len(value) != len(steps) + 1:
        return False
    if not all([_is_grid(nodes, grid) for grid in value]):
        return False
    papers = [[fraction_row(line) for line in grid] for grid in value]
    if papers[0] != [([int(x == y) for y in range(nodes)], 1) for x in range(nodes)]:
        return False
    for (begin, gone, end), ahead, behind in zip(steps, papers, papers[1:]):
        less, more = (ahead, behind) if begin < end else (behind, ahead)
        if [times(row, kept[gone], nodes) for row in less] != more:
            return False
    return True


def _need_kept(lot, word, nodes, kept, telling):
    need_word(word)
    # Refuses what is no number of nodes and no telling, too.
    if not is_kept(lot, nodes, kept, telling):
        raise InvalidKept(kept)
    if not settles(lot.words(), word):
        raise NotSettled(word)


def _is_grid(nodes, value):
    """Whether it is a matrix of so many nodes, of fractions."""
    if not is_list(value) or len(value) != nodes:
        return False
    return all([_is_line(nodes, line) for line in value])


def _is_line(nodes, value):
    return is_list(value) and len(value) == nodes and all([_is_fraction(number) for number in value])


def _is_fraction(value):
    if not isinstance(value, tuple) or len(value) != 2 or not is_integer(value[0]) or not is_integer(value[1]):
        return False
    return value[1] >= 1 and gcd(value[0], value[1]) == 1
