"""Lines of code: which values are such, whose tables they read, and what they write."""

from netkeep.making import made
from netkeep.signs import is_sign
from netkeep.ties import is_below
from netkeep.words import is_word

MOST_REGISTERS = 16
# How many registers each kind of line reads.
READS = {"load": 0, "keep": 0, "then": 2, "or": 2, "back": 2, "again": 1, "perhaps": 1}


def is_line(value):
    """Whether any value is a line, whatever was written ahead."""
    if not isinstance(value, tuple) or len(value) < 3 or not isinstance(value[0], str) or value[0] not in READS:
        return False
    if not is_below(value[1], MOST_REGISTERS):
        return False
    if READS[value[0]] == 0:
        return len(value) == 3 and (is_sign(value[2]) if value[0] == "load" else is_word(value[2]))
    return len(value) == 2 + READS[value[0]] and all([is_below(place, MOST_REGISTERS) for place in value[2:]])


def read_by(line):
    """The registers that a line reads, in its sequence."""
    return line[2:] if READS[line[0]] else ()


def wrong_line(values):
    """The position of the first value that is no line, or reads what no line ahead writes; None without one."""
    written = {}
    for position, value in enumerate(values):
        if not is_line(value) or not all([place in written for place in read_by(value)]):
            return position
        written[value[1]] = True
    return None


def first_kind(lines, kinds):
    """The position of the first line of one of these kinds; None without one."""
    for position, line in enumerate(lines):
        if line[0] in kinds:
            return position
    return None


def sources_of(lines):
    """For each line the list of the positions of the lines whose tables it reads."""
    written = {}
    found = []
    for position, line in enumerate(lines):
        found.append([written[place] for place in read_by(line)])
        written[line[1]] = position
    return found


def rows_written(lines, known):
    """The rows of the tables that lines write, by the known rows of the signs and words of "load" and "keep"."""
    found = []
    for line, sources in zip(lines, sources_of(lines)):
        read = [found[source] for source in sources]
        found.append(made(line[0], read) if read else known[line[2]])
    return found
