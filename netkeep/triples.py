"""Triples: where one question stands behind a string, with the reach and the rounds of another one there."""

from netkeep.errors import TooMany
from netkeep.masks import bits, closed, couples_of, mask_of, rows_of, union
from netkeep.signs import contrary, step_rows
from netkeep.ties import is_below, is_pair, is_rising

MOST_TRIPLES = 2000


class Watch:
    """What becomes of a question's reach, a mask, and of its rounds, a tuple of masks, sign by sign."""

    def __init__(self, question):
        self._many = question.standings
        self.end_mask = mask_of(question.ends())
        self._steps = step_rows(question.standings, question.steps())
        self._known = {}

    def at_first(self):
        """Reach and rounds behind the empty string."""
        return 1, tuple([1 << standing for standing in range(self._many)])

    def behind(self, reach, rounds, sign):
        """Reach and rounds behind one sign more."""
        further = self._rounds_behind(rounds, sign)
        return union(further, union(self._steps[sign], reach)), further

    def behind_all(self, signs):
        """Reach and rounds behind a string of signs."""
        reach, rounds = self.at_first()
        for sign in signs:
            reach, rounds = self.behind(reach, rounds, sign)
        return reach, rounds

    def _rounds_behind(self, rounds, sign):
        # Many triples have the same rounds, so each answer is kept.
        if (rounds, sign) not in self._known:
            there = self._steps[contrary(sign)]
            rows = [union(self._steps[sign], union(rounds, mask)) for mask in there]
            self._known[rounds, sign] = closed([mask | 1 << at for at, mask in enumerate(rows)])
        return self._known[rounds, sign]


class Board:
    """The triples of one question, and of another one that is watched; reach and rounds are masks in them."""

    def __init__(self, one, watch):
        self._ends = one.ends()
        self._steps = step_rows(one.standings, one.steps())
        self._signs = [self._signs_from(standing) for standing in range(one.standings)]
        self._watch = watch

    def _signs_from(self, standing):
        return [sign for sign in self._steps if self._steps[sign][standing]]

    def first(self):
        """The triple behind the empty string, with standing 0."""
        reach, rounds = self._watch.at_first()
        return 0, reach, rounds

    def steps(self, triple):
        """The list of the tuples (sign, triple) to which steps lead from a triple."""
        standing, reach, rounds = triple
        found = []
        for sign in self._signs[standing]:
            behind = self._watch.behind(reach, rounds, sign)
            found.extend([(sign, (goal, *behind)) for goal in bits(self._steps[sign][standing])])
        return found

    def parts(self, triple):
        """Whether the one question is at an end there, and the other one at none."""
        return triple[0] in self._ends and not triple[1] & self._watch.end_mask

    def triples(self):
        """All triples that are come to from the first one, in the sequence in which they are met."""
        found = [self.first()]
        there = {self.first(): True}
        at = 0
        while at < len(found):
            here = found[at]
            for _, triple in self.steps(here):
                if triple not in there:
                    there[triple] = True
                    found.append(triple)
            if len(found) > MOST_TRIPLES:
                raise TooMany("triples", MOST_TRIPLES)
            at += 1
        return found

    def is_within(self):
        """Whether no triple that is come to parts the questions."""
        return not any([self.parts(triple) for triple in self.triples()])


class Likeness:
    """Which questions are alike to a given one, that is trimmed; each is worked out once."""

    def __init__(self, given):
        self._given = given
        self._watch = Watch(given)
        self._known = {}

    def holds(self, question):
        """Whether each of both lies within the other one."""
        tried = question.trimmed()
        key = (tried.standings, tuple(tried.steps()), tuple(tried.ends()))
        if key not in self._known:
            self._known[key] = self._work_out(tried)
        return self._known[key]

    def _work_out(self, tried):
        # Both sides are always worked out: there may be too many triples on the second one alone.
        forth = Board(tried, self._watch).is_within()
        behind = Board(self._given, Watch(tried)).is_within()
        return forth and behind


def told_triple(triple):
    """The triple with sorted tuples in the places of masks."""
    standing, reach, rounds = triple
    return standing, tuple(bits(reach)), tuple(couples_of(rounds))


def read_triple(value, standings, others):
    """The triple, with masks, that any value tells; None if it is none."""
    if not isinstance(value, tuple) or len(value) != 3 or not is_below(value[0], standings):
        return None
    reach, rounds = value[1], value[2]
    if not isinstance(reach, tuple) or not all([is_below(standing, others) for standing in reach]):
        return None
    if not isinstance(rounds, tuple) or not all([is_pair(couple, others) for couple in rounds]):
        return None
    if not is_rising(reach) or not is_rising(rounds):
        return None
    return value[0], mask_of(reach), tuple(rows_of(others, rounds))
