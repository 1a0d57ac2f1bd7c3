"""Sessions: programs of lines that are woven into one another, what they hear, and where they end."""

from netkeep.answers import pairs
from netkeep.checks import need_nodes
from netkeep.errors import InvalidOrder, TooMany
from netkeep.faults import InvalidPrograms, InvalidWeaving, TooFewNodes, UnknownSpot
from netkeep.ties import is_below, is_list, is_order, is_tie
from netkeep.words import is_word

LONGEST_ASK = 6


class Sessions:
    """One to three programs of lines; they never change."""

    MOST_NODES = 8
    MOST_SESSIONS = 3
    MOST_LINES = 3

    def __init__(self, nodes, programs):
        need_nodes(nodes)
        if not is_list(programs) or not programs:
            raise InvalidPrograms(None)
        for position, program in enumerate(programs):
            if not is_list(program) or not program or not all([_is_line(line, nodes) for line in program]):
                raise InvalidPrograms(position)
        if nodes > Sessions.MOST_NODES:
            raise TooMany("nodes", Sessions.MOST_NODES)
        if len(programs) > Sessions.MOST_SESSIONS:
            raise TooMany("sessions", Sessions.MOST_SESSIONS)
        if max([len(program) for program in programs]) > Sessions.MOST_LINES:
            raise TooMany("lines", Sessions.MOST_LINES)
        self._nodes = nodes
        self._programs = [list(program) for program in programs]

    @property
    def nodes(self):
        """How many nodes its ties are between."""
        return self._nodes

    def programs(self):
        """The list of the programs, lists of lines."""
        return [list(program) for program in self._programs]

    def spots(self):
        """The sorted list of the spots of all lines."""
        return [(number, at) for number, program in enumerate(self._programs) for at in range(len(program))]

    def asks(self):
        """The sorted list of the spots of all asks."""
        return [(number, at) for number, at in self.spots() if self._programs[number][at][0] == "ask"]

    def touched(self):
        """The sorted list of the ties that lines put or strike."""
        lines = [line for program in self._programs for line in program]
        return sorted({line[1] for line in lines if line[0] != "ask"})

    def orders(self):
        """The sorted list of all orders."""
        return _orders(list(range(len(self._programs))))

    def __getitem__(self, at):
        if not _is_spot(self._programs, at):
            raise UnknownSpot(at)
        return self._programs[at[0]][at[1]]

    def __iter__(self):
        raise TypeError("sessions are not iterated over: take spots() or programs()")

    def __len__(self):
        return len([line for program in self._programs for line in program])

    def __eq__(self, other):
        return isinstance(other, Sessions) and self._nodes == other._nodes and self._programs == other._programs

    def __repr__(self):
        return f"Sessions({self._nodes}, {self._programs})"


def weavings(sessions):
    """The sorted list of all weavings, as tuples."""
    return _weavings([len(program) for program in sessions.programs()])


def is_weaving(sessions, value):
    """Whether any value is a weaving."""
    programs = sessions.programs()
    if not is_list(value) or not all([is_below(number, len(programs)) for number in value]):
        return False
    return sorted(value) == [number for number, _ in sessions.spots()]


def need_weaving(sessions, weaving):
    """Refuse what is no weaving."""
    if not is_weaving(sessions, weaving):
        raise InvalidWeaving(weaving)


def way_of(weaving):
    """The spots of the lines in the sequence in which they are done."""
    done = {}
    found = []
    for number in weaving:
        found.append((number, done.get(number, 0)))
        done[number] = done.get(number, 0) + 1
    return found


def weaving_of(sessions, order):
    """The weaving of the order: one session behind the other."""
    programs = sessions.programs()
    if not is_order(order, len(programs)):
        raise InvalidOrder(order)
    return tuple([number for number in order for _ in programs[number]])


def marks(sessions, weaving, spot=None):
    """Whether the last line that puts or strikes a tie puts it: behind the lines ahead of a spot, or behind all."""
    need_weaving(sessions, weaving)
    if spot is not None and not _is_spot(sessions.programs(), spot):
        raise UnknownSpot(spot)
    found = {}
    for here in way_of(weaving):
        if here == spot:
            break
        kind, worth = sessions[here]
        if kind != "ask":
            found[worth] = kind == "put"
    return {tie: found[tie] for tie in sorted(found)}


def heard(sessions, store, weaving):
    """The dict from the spots of all asks to what they hear."""
    _need_store(sessions, store, weaving)
    found = {}
    for spot in way_of(weaving):
        kind, worth = sessions[spot]
        if kind == "ask":
            found[spot] = pairs(store, worth)
        else:
            store = _behind_line(store, kind, worth)
    return {spot: found[spot] for spot in sorted(found)}


def behind(sessions, store, weaving):
    """The store at the end."""
    _need_store(sessions, store, weaving)
    for spot in way_of(weaving):
        kind, worth = sessions[spot]
        if kind != "ask":
            store = _behind_line(store, kind, worth)
    return store


def _is_line(value, nodes):
    if not isinstance(value, tuple) or len(value) != 2 or not isinstance(value[0], str):
        return False
    if value[0] == "ask":
        return is_word(value[1]) and len(value[1]) <= LONGEST_ASK
    return value[0] in ("put", "strike") and is_tie(value[1], nodes)


def _is_spot(programs, value):
    if not isinstance(value, tuple) or len(value) != 2 or not is_below(value[0], len(programs)):
        return False
    return is_below(value[1], len(programs[value[0]]))


def _orders(numbers):
    """The sorted list of the tuples of all of the sorted numbers, each once."""
    if not numbers:
        return [()]
    found = []
    for first in numbers:
        found.extend([(first, *rest) for rest in _orders([number for number in numbers if number != first])])
    return found


def _weavings(left):
    """The sorted list of the tuples of numbers, each as often as is told for it."""
    if not any(left):
        return [()]
    found = []
    for number, many in enumerate(left):
        if many:
            less = [other - int(at == number) for at, other in enumerate(left)]
            found.extend([(number, *rest) for rest in _weavings(less)])
    return found


def _behind_line(store, kind, tie):
    return store + tie if kind == "put" else store - tie


def _need_store(sessions, store, weaving):
    need_weaving(sessions, weaving)
    if store.nodes < sessions.nodes:
        raise TooFewNodes(store.nodes, sessions.nodes)
