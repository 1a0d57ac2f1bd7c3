"""Copies at several places: which kinds make them agree in whatever sequence they hear of the same deeds."""

from netkeep.checks import need_nodes
from netkeep.choosing import choices_of
from netkeep.faults import InvalidDeeds
from netkeep.meeting import looks_in, partings_in, ways_in
from netkeep.store import Store
from netkeep.ties import is_below, is_list, is_tie
from netkeep.words import is_count


def agrees(kind):
    """Whether lists with the same deeds, each as often, lead to marks that count alike."""
    return clash(kind) is None


def bears_repeats(kind):
    """Whether one deed more, right behind the same one, never changes what counts."""
    return echo(kind) is None


def looks(kind):
    """Looks that show that the kind agrees; None if it does not."""
    return _looks(kind) if agrees(kind) else None


def repeat_looks(kind):
    """Looks that show that the kind bears repeats; None if it does not."""
    return _looks(kind) if bears_repeats(kind) else None


def shows_agreement(kind, value):
    """Whether any value is looks that show that the kind agrees."""
    if not _are_looks(kind, value):
        return False
    table, marks = kind.table(), [mark for mark, look in enumerate(value) if look is not None]
    deeds = range(kind.deed_count)
    moves = [(mark, one, other) for mark in marks for one in deeds for other in deeds]
    return all([value[table[table[mark][one]][other]] == value[table[table[mark][other]][one]]
                for mark, one, other in moves])


def shows_repeats(kind, value):
    """Whether any value is looks that show that the kind bears repeats."""
    if not _are_looks(kind, value):
        return False
    table, marks = kind.table(), [mark for mark, look in enumerate(value) if look is not None]
    moves = [(mark, deed) for mark in marks for deed in range(kind.deed_count)]
    return all([value[table[mark][deed]] == value[table[table[mark][deed]][deed]] for mark, deed in moves])


def clash(kind):
    """The least clash, by how many deeds it has ahead and behind together, then as a tuple; None without one."""
    table, apart, ways = kind.table(), partings_in(kind.table(), kind.counting()), ways_in(kind.table())
    deeds = range(kind.deed_count)
    found = []
    for mark, one, other in [(mark, one, other) for mark in ways for one in deeds for other in deeds]:
        couple = table[table[mark][one]][other], table[table[mark][other]][one]
        if couple in apart:
            found.append((ways[mark], one, other, apart[couple]))
    return min(found, key=lambda told: (len(told[0]) + len(told[3]), told), default=None)


def is_clash(kind, value):
    """Whether any value is a clash."""
    if not isinstance(value, tuple) or len(value) != 4:
        return False
    ahead, one, other, behind = value
    if not _are_deeds(kind, ahead) or not _are_deeds(kind, [one, other]) or not _are_deeds(kind, behind):
        return False
    first, second = [*ahead, one, other, *behind], [*ahead, other, one, *behind]
    return kind.does_count(first) != kind.does_count(second)


def echo(kind):
    """The least echo, by how many deeds it has ahead and behind together, then as a tuple; None without one."""
    table, apart, ways = kind.table(), partings_in(kind.table(), kind.counting()), ways_in(kind.table())
    found = []
    for mark, deed in [(mark, deed) for mark in ways for deed in range(kind.deed_count)]:
        couple = table[mark][deed], table[table[mark][deed]][deed]
        if couple in apart:
            found.append((ways[mark], deed, apart[couple]))
    return min(found, key=lambda told: (len(told[0]) + len(told[2]), told), default=None)


def is_echo(kind, value):
    """Whether any value is an echo."""
    if not isinstance(value, tuple) or len(value) != 3:
        return False
    ahead, deed, behind = value
    if not _are_deeds(kind, ahead) or not _are_deeds(kind, [deed]) or not _are_deeds(kind, behind):
        return False
    return kind.does_count([*ahead, deed, *behind]) != kind.does_count([*ahead, deed, deed, *behind])


def greatest_together(kind):
    """The sorted list of the sorted lists of deeds that agree together, none within another one."""
    found = []
    # Greater ones come first, and what is within one of them is not greatest.
    for some in choices_of(kind.deed_count)[:0:-1]:
        if not any([all([deed in more for deed in some]) for more in found]) and agrees(kind.only(some)):
            found.append(some)
    return sorted(found)


def copy_behind(kind, nodes, some):
    """The store of those of the told ties that count behind these deeds in their sequence."""
    need_nodes(nodes)
    if not is_list(some):
        raise InvalidDeeds(None)
    for position, told in enumerate(some):
        if not _is_told(kind, nodes, told):
            raise InvalidDeeds(position)
    table, counting = kind.table(), kind.counting()
    marks = {}
    for deed, tie in some:
        marks[tie] = table[marks.get(tie, 0)][deed]
    return Store(nodes, [tie for tie in marks if counting[marks[tie]]])


def _looks(kind):
    """For each mark that is come to the least mark that is alike to it, None for the others."""
    alike, ways = looks_in(kind.table(), kind.counting()), ways_in(kind.table())
    return [look if mark in ways else None for mark, look in enumerate(alike)]


def _are_looks(kind, value):
    """Whether any value is looks, whatever they show."""
    if not is_list(value) or len(value) != len(kind) or not is_count(value[0]):
        return False
    if not all([look is None or is_count(look) for look in value]):
        return False
    counting, lines = kind.counting(), [[value[goal] for goal in row] for row in kind.table()]
    told = {}
    for look, counts, line in zip(value, counting, lines):
        if look is not None and (None in line or told.setdefault(look, (counts, line)) != (counts, line)):
            return False
    return True


def _are_deeds(kind, value):
    return is_list(value) and all([is_below(deed, kind.deed_count) for deed in value])


def _is_told(kind, nodes, value):
    """Whether any value is a tuple of a deed and a tie."""
    if not isinstance(value, tuple) or len(value) != 2:
        return False
    return is_below(value[0], kind.deed_count) and is_tie(value[1], nodes)
