"""Kinds: what deeds make of the marks of a tie, and which marks count as there."""

from netkeep.errors import TooMany
from netkeep.faults import InvalidDeeds, InvalidKind, InvalidMarks, InvalidTable
from netkeep.meeting import looks_in, met_in, numbered
from netkeep.ties import first_wrong, is_below, is_list

MOST_MARKS = 12
MOST_DEEDS = 5


class Kind:
    """Marks, for each deed the mark that it makes of each one, and the marks that count; a kind never changes."""

    def __init__(self, table, counting):
        _need_table(table)
        _need_counting(counting, len(table))
        if len(table) > MOST_MARKS:
            raise TooMany("marks", MOST_MARKS)
        if len(table[0]) > MOST_DEEDS:
            raise TooMany("deeds", MOST_DEEDS)
        self._table = [list(row) for row in table]
        self._counting = list(counting)

    @staticmethod
    def last():
        """The kind in which the last deed tells; deed 0 puts, deed 1 strikes."""
        return Kind([[1, 0], [1, 0]], [False, True])

    @staticmethod
    def strike_wins():
        """The kind in which a tie never counts again once it is struck; deed 0 puts, deed 1 strikes."""
        return Kind([[1, 2], [1, 2], [2, 2]], [False, True, False])

    @property
    def deed_count(self):
        """How many deeds it has."""
        return len(self._table[0])

    def table(self):
        """For each mark the list of what each deed makes of it."""
        return [list(row) for row in self._table]

    def counting(self):
        """For each mark whether it counts."""
        return list(self._counting)

    def mark(self, deeds):
        """The mark behind these deeds, from mark 0 on."""
        _need_deeds(self, deeds)
        mark = 0
        for deed in deeds:
            mark = self._table[mark][deed]
        return mark

    def does_count(self, deeds):
        """Whether the mark behind these deeds counts."""
        return self._counting[self.mark(deeds)]

    def least(self):
        """The kind of the marks that are come to, alike ones joined."""
        looks = looks_in(self._table, self._counting)
        rows = {look: [looks[goal] for goal in self._table[look]] for look in looks}
        met = met_in(rows, looks[0])
        return Kind(numbered(rows, met), [self._counting[look] for look in met])

    def only(self, deeds):
        """The kind with these deeds, in this sequence."""
        if not is_list(deeds) or not deeds:
            raise InvalidDeeds(None)
        wrong = first_wrong(deeds, [is_below(deed, self.deed_count) for deed in deeds])
        if wrong is not None:
            raise InvalidDeeds(wrong)
        return Kind([[row[deed] for deed in deeds] for row in self._table], self._counting)

    def __and__(self, other):
        _need_as_many_deeds(self, other)
        rows, met = _together(self._table, other._table)
        return Kind(numbered(rows, met), [self._counting[x] and other._counting[y] for x, y in met])

    def __or__(self, other):
        _need_as_many_deeds(self, other)
        rows, met = _together(self._table, other._table)
        return Kind(numbered(rows, met), [self._counting[x] or other._counting[y] for x, y in met])

    def __len__(self):
        return len(self._table)

    def __eq__(self, other):
        return isinstance(other, Kind) and self._table == other._table and self._counting == other._counting

    def __repr__(self):
        return f"Kind({self._table}, {self._counting})"


def _need_deeds(kind, deeds):
    """Refuse what is no list of deeds of the kind."""
    if not is_list(deeds):
        raise InvalidDeeds(None)
    for position, deed in enumerate(deeds):
        if not is_below(deed, kind.deed_count):
            raise InvalidDeeds(position)


def _need_table(table):
    if not is_list(table) or not table:
        raise InvalidTable(None)
    for position, row in enumerate(table):
        if not is_list(row) or not row or not all([is_below(goal, len(table)) for goal in row]):
            raise InvalidTable(position)
        if len(row) != len(table[0]):
            raise InvalidTable(position)


def _need_counting(counting, many):
    if not is_list(counting) or len(counting) != many:
        raise InvalidMarks(None)
    for position, counts in enumerate(counting):
        if not isinstance(counts, bool):
            raise InvalidMarks(position)


def _need_as_many_deeds(kind, other):
    if not isinstance(other, Kind) or other.deed_count != kind.deed_count:
        raise InvalidKind(other)


def _together(table, other):
    """The rows of all couples of marks, and those couples that are met from mark 0 of both."""
    rows = {
        (x, y): list(zip(row, further))
        for x, row in enumerate(table)
        for y, further in enumerate(other)
    }
    return rows, met_in(rows, (0, 0))
