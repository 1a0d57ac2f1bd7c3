"""Questions, which are walks over ties forth and back, and what they are answered."""

from netkeep.checks import need_node
from netkeep.errors import InvalidEnds, InvalidOrder, InvalidSigns, InvalidStandings, InvalidSteps, TooMany
from netkeep.masks import bits, couples_of, led, mask_of, union
from netkeep.signs import are_signs, contrary, is_sign, is_step, need_signs, sign_rows, step_rows, tie_of
from netkeep.store import Store
from netkeep.ties import first_wrong, is_below, is_list, is_order, linked
from netkeep.words import is_integer


class Question:
    """Standings, the steps between them and the ends; a question never changes."""

    MOST_STANDINGS = 9

    def __init__(self, standings, steps, ends):
        if not is_integer(standings) or not 1 <= standings <= Question.MOST_STANDINGS:
            raise InvalidStandings(standings)
        if not is_list(steps):
            raise InvalidSteps(None)
        wrong = first_wrong(steps, [is_step(step, standings) for step in steps])
        if wrong is not None:
            raise InvalidSteps(wrong)
        if not is_list(ends):
            raise InvalidEnds(None)
        wrong = first_wrong(ends, [is_below(end, standings) for end in ends])
        if wrong is not None:
            raise InvalidEnds(wrong)
        self._standings = standings
        self._steps = sorted(steps)
        self._ends = sorted(ends)

    @property
    def standings(self):
        """How many standings it has."""
        return self._standings

    def steps(self):
        """The sorted list of its steps."""
        return list(self._steps)

    def ends(self):
        """The sorted list of its ends."""
        return list(self._ends)

    def goals(self, standing, sign):
        """The sorted list of the standings to which steps with this sign lead from the standing."""
        if not is_below(standing, self._standings):
            raise InvalidStandings(standing)
        if not is_sign(sign):
            raise InvalidSigns(sign)
        return [step[2] for step in self._steps if step[0] == standing and step[1] == sign]

    def signs(self):
        """The unlike signs of its steps, sorted."""
        return "".join(sorted({step[1] for step in self._steps}))

    def reads(self, signs):
        """Whether steps with these signs, one by one, lead from 0 to an end."""
        need_signs(signs)
        come_to = led(step_rows(self._standings, self._steps), 1, signs)
        return come_to & mask_of(self._ends) != 0

    def trimmed(self):
        """The question without the standings that lie on no way from 0 to an end; 0 stays."""
        forth = linked([(step[0], step[2]) for step in self._steps], [0])
        behind = linked([(step[2], step[0]) for step in self._steps], self._ends)
        kept = [standing for standing in forth if standing == 0 or standing in behind]
        return self._only(kept)

    def renumbered(self, order):
        """The question in which standing order[k] is called k."""
        if not is_order(order, self._standings) or order[0] != 0:
            raise InvalidOrder(order)
        return self._only(order)

    @staticmethod
    def of(signs):
        """The question that reads just this string, with a standing for each place of it."""
        if not are_signs(signs) or len(signs) >= Question.MOST_STANDINGS:
            raise InvalidSigns(signs)
        steps = [(place, sign, place + 1) for place, sign in enumerate(signs)]
        return Question(len(signs) + 1, steps, [len(signs)])

    def __eq__(self, other):
        return (
            isinstance(other, Question)
            and self._standings == other._standings
            and self._steps == other._steps
            and self._ends == other._ends
        )

    def __repr__(self):
        return f"Question({self._standings}, {self._steps}, {self._ends})"

    def _only(self, kept):
        called = {standing: number for number, standing in enumerate(kept)}
        steps = [(called[p], sign, called[q]) for p, sign, q in self._steps if p in called and q in called]
        return Question(len(kept), steps, [called[end] for end in self._ends if end in called])


def asked(store, question):
    """The relation of the pairs that have a reason."""
    rows = sign_rows(store)
    steps = step_rows(question.standings, question.steps())
    return couples_of([_goals_of(rows, steps, question, x) for x in range(store.nodes)])


def reason(store, question, start, end):
    """Of the shortest reasons for the pair the first one, sorted; None if there is none."""
    _need_pair(store, start, end)
    rows = sign_rows(store)
    contraries = [(q, contrary(sign), p) for p, sign, q in question.steps()]
    far = _far(rows, _steps_from(question.standings, contraries), [(end, standing) for standing in question.ends()])
    if (start, 0) not in far:
        return None
    steps = _steps_from(question.standings, question.steps())
    places = [(start, 0)]
    while far[places[-1]] > 0:
        left = far[places[-1]] - 1
        places.append(min([place for place in _moves(rows, steps, places[-1]) if far.get(place) == left]))
    return places


def is_reason(store, question, start, end, value):
    """Whether any value is a reason for the pair."""
    _need_pair(store, start, end)
    if not is_list(value) or not value or not _are_places(store, question, value):
        return False
    if value[0] != (start, 0) or value[-1][0] != end or value[-1][1] not in question.ends():
        return False
    rows = sign_rows(store)
    steps = _steps_from(question.standings, question.steps())
    return all([goal in _moves(rows, steps, place) for place, goal in zip(value, value[1:])])


def denial(store, question, start, end):
    """The list of all places that are come to from the pair's first node, if it is a denial; None."""
    _need_pair(store, start, end)
    far = _far(sign_rows(store), _steps_from(question.standings, question.steps()), [(start, 0)])
    if any([(end, standing) in far for standing in question.ends()]):
        return None
    return sorted(far)


def is_denial(store, question, start, end, value):
    """Whether any value is a denial of the pair."""
    _need_pair(store, start, end)
    if not is_list(value) or not _are_places(store, question, value):
        return False
    there = {place: True for place in value}
    if len(there) != len(value) or (start, 0) not in there:
        return False
    if any([(end, standing) in there for standing in question.ends()]):
        return False
    rows = sign_rows(store)
    steps = _steps_from(question.standings, question.steps())
    return all([goal in there for place in value for goal in _moves(rows, steps, place)])


def row_of(signs):
    """The row of a string of signs."""
    need_signs(signs)
    if len(signs) >= Store.MOST_NODES:
        raise TooMany("nodes", Store.MOST_NODES)
    return Store(len(signs) + 1, [tie_of(sign, place) for place, sign in enumerate(signs)])


def _need_pair(store, start, end):
    need_node(start, store.nodes)
    need_node(end, store.nodes)


def _are_places(store, question, value):
    """Whether all that a list has are places: tuples of a node and a standing."""
    return all([_is_place(place, store.nodes, question.standings) for place in value])


def _is_place(value, nodes, standings):
    if not isinstance(value, tuple) or len(value) != 2:
        return False
    return is_below(value[0], nodes) and is_below(value[1], standings)


def _steps_from(standings, steps):
    """For each standing the list of the tuples (sign, standing) of the steps that lead from it."""
    found = [[] for _ in range(standings)]
    for standing, sign, goal in steps:
        found[standing].append((sign, goal))
    return found


def _moves(rows, steps, place):
    """The places to which some step leads from a place."""
    node, standing = place
    return [(further, goal) for sign, goal in steps[standing] for further in bits(rows[sign][node])]


def _far(rows, steps, places):
    """For each place that is come to from some of the told ones, how many steps it takes."""
    far = {place: 0 for place in places}
    queue = list(places)
    at = 0
    while at < len(queue):
        here = queue[at]
        for place in _moves(rows, steps, here):
            if place not in far:
                far[place] = far[here] + 1
                queue.append(place)
        at += 1
    return far


def _goals_of(rows, steps, question, start):
    """The mask of the nodes for which the pair with the start has a reason."""
    found = [0] * question.standings
    found[0] = 1 << start
    queue = [(0, 1 << start)]
    while queue:
        standing, nodes = queue.pop()
        for sign in question.signs():
            goals = bits(steps[sign][standing])
            further = union(rows[sign], nodes) if goals else 0
            for goal in goals:
                fresh = further & ~found[goal]
                if fresh:
                    found[goal] = found[goal] | fresh
                    queue.append((goal, fresh))
    return union(found, mask_of(question.ends()))
