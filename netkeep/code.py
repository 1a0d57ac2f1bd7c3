"""Code: lines that write tables into registers, its runs, and the sayings for which the lines stand."""

from netkeep.answers import is_relation, pairs
from netkeep.checks import need_nodes
from netkeep.coding import first_kind, rows_written, wrong_line
from netkeep.errors import InvalidKept, TooMany
from netkeep.faults import HasBack, InvalidLines, NotKept
from netkeep.masks import couples_of, rows_of
from netkeep.sayings import Saying, says_alike
from netkeep.signs import sign_rows
from netkeep.ties import is_below, is_list
from netkeep.words import is_word

MOST_LINES = 40


class Code:
    """One to forty lines; code never changes."""

    def __init__(self, lines):
        if not is_list(lines) or not lines:
            raise InvalidLines(None)
        wrong = wrong_line(lines)
        if wrong is not None:
            raise InvalidLines(wrong)
        if len(lines) > MOST_LINES:
            raise TooMany("lines", MOST_LINES)
        self._lines = list(lines)

    @property
    def registers(self):
        """How many unlike registers are written."""
        return len({line[1] for line in self._lines})

    @property
    def told(self):
        """The register of the last line."""
        return self._lines[-1][1]

    def lines(self):
        """The list of its lines."""
        return list(self._lines)

    def __add__(self, other):
        return Code(self._lines + [other])

    def __getitem__(self, at):
        if not is_below(at, len(self._lines)):
            raise InvalidLines(at)
        return self._lines[at]

    def __iter__(self):
        raise TypeError("code is not iterated over: take lines()")

    def __len__(self):
        return len(self._lines)

    def __eq__(self, other):
        return isinstance(other, Code) and self._lines == other._lines

    def __repr__(self):
        return f"Code({self._lines})"


def run(code, store):
    """The list of the tables that the lines write; answers are kept as those of the store."""
    known = sign_rows(store)
    for line in code.lines():
        if line[0] == "keep":
            known[line[2]] = rows_of(store.nodes, pairs(store, line[2]))
    return _tables(code, known)


def run_kept(code, nodes, kept):
    """The list of the tables that the lines write by kept answers alone."""
    need_nodes(nodes)
    if not isinstance(kept, dict) or not all([is_word(word) and is_relation(nodes, kept[word]) for word in kept]):
        raise InvalidKept(kept)
    for line in code.lines():
        if line[0] == "load" or (line[0] == "keep" and line[2] not in kept):
            raise NotKept(line[2])
    return _tables(code, {word: rows_of(nodes, kept[word]) for word in kept})


def is_run(code, store, value):
    """Whether any value is the run."""
    if not is_list(value) or not all([is_relation(store.nodes, table) for table in value]):
        return False
    return [list(table) for table in value] == run(code, store)


def stands_for(code):
    """The list of the sayings for which the lines stand."""
    _need_no_back(code)
    return _sayings(code)


def tell_alike(one, other):
    """Whether both tell the same in all stores."""
    _need_no_back(one)
    _need_no_back(other)
    first, second = _sayings(one)[-1], _sayings(other)[-1]
    return says_alike(first, second)


def _tables(code, known):
    return [couples_of(rows) for rows in rows_written(code.lines(), known)]


def _need_no_back(code):
    position = first_kind(code.lines(), ("back",))
    if position is not None:
        raise HasBack(position)


def _sayings(code):
    """The sayings for which the lines of code without "back" stand."""
    held = {}
    found = []
    for line in code.lines():
        held[line[1]] = _saying_of(line, held)
        found.append(held[line[1]])
    return found


def _saying_of(line, held):
    """The saying of a line, by those whose tables the registers hold."""
    kind, _, told, *more = line
    if kind == "load":
        return Saying(told)
    if kind == "keep":
        return Saying.of(told)
    if kind == "again":
        return held[told].again()
    if kind == "perhaps":
        return held[told].perhaps()
    return held[told] * held[more[0]] if kind == "then" else held[told] | held[more[0]]
