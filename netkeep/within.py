"""Whether one question is within another one, in all stores, and the papers that show it."""

from netkeep.errors import TooMany
from netkeep.masks import bits, couples_of, led, mask_of
from netkeep.questions import Question
from netkeep.signs import are_signs, need_signs, step_rows
from netkeep.ties import is_list
from netkeep.triples import Board, Likeness, Watch, read_triple, told_triple

MOST_TRIMMED = 4
LONGEST_PARTING = 2000


def reach_behind(question, signs):
    """The sorted list of the standings with which the question can come to the last node of the row."""
    need_signs(signs)
    return bits(Watch(question).behind_all(signs)[0])


def rounds_behind(question, signs):
    """The relation of its rounds at the last node of the row."""
    need_signs(signs)
    return couples_of(Watch(question).behind_all(signs)[1])


def lies_within(one, other):
    """Whether in all stores each pair of the answer of one is one of other's."""
    return _board(one, other).is_within()


def cover(one, other):
    """The sorted list of all triples that are come to, if it is a cover; None."""
    board = _board(one, other)
    triples = board.triples()
    if any([board.parts(triple) for triple in triples]):
        return None
    return sorted([told_triple(triple) for triple in triples])


def is_cover(one, other, value):
    """Whether any value is a cover."""
    board = _board(one, other)
    if not is_list(value):
        return False
    standings, others = one.trimmed().standings, other.trimmed().standings
    triples = [read_triple(told, standings, others) for told in value]
    if None in triples:
        return False
    there = {triple: True for triple in triples}
    if len(there) != len(triples) or board.first() not in there:
        return False
    if any([board.parts(triple) for triple in triples]):
        return False
    return all([goal in there for triple in triples for _, goal in board.steps(triple)])


def parting(one, other):
    """The least string that parts one from other; None if there is none."""
    board = _board(one, other)
    further = {triple: board.steps(triple) for triple in board.triples()}
    far = _far(further, [triple for triple in further if board.parts(triple)])
    if board.first() not in far:
        return None
    signs = ""
    triples = [board.first()]
    for left in reversed(range(far[board.first()])):
        steps = [step for triple in triples for step in further[triple] if far.get(step[1]) == left]
        least = min([sign for sign, _ in steps])
        triples = list({triple: True for sign, triple in steps if sign == least})
        signs = signs + least
    return signs


def is_parting(one, other, value):
    """Whether any value is a parting."""
    asking, watched = _small(one), _small(other)
    if not are_signs(value) or len(value) > LONGEST_PARTING:
        return False
    come_to = led(step_rows(asking.standings, asking.steps()), 1, value)
    reach = Watch(watched).behind_all(value)[0]
    return come_to & mask_of(asking.ends()) != 0 and reach & mask_of(watched.ends()) == 0


def how_many_triples(one, other):
    """How many triples are come to from the first one."""
    return len(_board(one, other).triples())


def are_alike(one, other):
    """Whether each of both lies within the other one."""
    asking, watched = _small(one), _small(other)
    return Likeness(watched).holds(asking)


def needless(question):
    """The sorted list of the steps without which the question is alike to itself."""
    likeness = Likeness(_small(question))
    steps = question.steps()
    return [step for step in steps if likeness.holds(_without(question, steps, step))]


def pared(question):
    """The trimmed question that is left when steps are left out, the last one tried first."""
    likeness = Likeness(_small(question))
    left = question.steps()
    for step in question.steps()[::-1]:
        tried = _without(question, left, step)
        if likeness.holds(tried):
            left = tried.steps()
    return Question(question.standings, left, question.ends()).trimmed()


def _small(question):
    """The trimmed question; refused if it has too many standings."""
    trimmed = question.trimmed()
    if trimmed.standings > MOST_TRIMMED:
        raise TooMany("standings", MOST_TRIMMED)
    return trimmed


def _board(one, other):
    asking, watched = _small(one), _small(other)
    return Board(asking, Watch(watched))


def _without(question, steps, left_out):
    return Question(question.standings, [step for step in steps if step != left_out], question.ends())


def _far(further, some):
    """For each triple from which some of the told ones are come to, by how few steps they are."""
    ahead = {triple: [] for triple in further}
    for triple in further:
        for _, goal in further[triple]:
            ahead[goal].append(triple)
    far = {triple: 0 for triple in some}
    queue = list(some)
    at = 0
    while at < len(queue):
        here = queue[at]
        for triple in ahead[here]:
            if triple not in far:
                far[triple] = far[here] + 1
                queue.append(triple)
        at += 1
    return far
