"""Logs: what was commanded, entry by entry, with a check for each line, and what is left of a torn text."""

from netkeep.errors import InvalidNumber, TooMany
from netkeep.faults import InvalidCommand, InvalidEntries, InvalidEntry, InvalidText
from netkeep.reading import number_below, parted_lines
from netkeep.ties import is_below, is_list

MOST_ENTRIES = 300
LONGEST_LINE = 200
CHECK_PRIME = 997
# The place of the percent sign among all characters: it stands in no line.
PERCENT = 37


class Log:
    """At most three hundred entries, command lines and tuples of such; a log never changes."""

    def __init__(self, entries=()):
        if not is_list(entries):
            raise InvalidEntries(None)
        wrong = wrong_entry(entries)
        if wrong is not None:
            raise InvalidEntries(wrong)
        if len(entries) > MOST_ENTRIES:
            raise TooMany("entries", MOST_ENTRIES)
        self._entries = list(entries)

    def entries(self):
        """The list of its entries."""
        return list(self._entries)

    def lines(self):
        """The list of all command lines, those of tuples in their sequence."""
        return [line for entry in self._entries for line in _lines_of(entry)]

    def text(self):
        """Its text."""
        return "".join([_text_of(entry) for entry in self._entries])

    def first(self, many):
        """The log of the first so many entries."""
        if not is_below(many, len(self._entries) + 1):
            raise InvalidNumber(many)
        return Log(self._entries[:many])

    def parted(self, mark):
        """The log ahead of the first entry that is, or has, this command line, and the log of the others."""
        if not is_command_line(mark):
            raise InvalidCommand(mark)
        places = [place for place, entry in enumerate(self._entries) if mark in _lines_of(entry)]
        place = min(places, default=len(self._entries))
        return Log(self._entries[:place]), Log(self._entries[place:])

    @staticmethod
    def read(text):
        """The log with just this text."""
        lines, rest = parted_lines(text)
        entries, many = _good_beginning(lines)
        if many < len(lines) or rest:
            raise InvalidText(many + 1)
        return Log(entries)

    @staticmethod
    def torn(text):
        """The good beginning of a text, and the number of its lines."""
        entries, many = _good_beginning(parted_lines(text)[0])
        return Log(entries), many

    def __add__(self, other):
        if not _is_entry(other):
            raise InvalidEntry(other)
        return Log(self._entries + [other])

    def __len__(self):
        return len(self._entries)

    def __contains__(self, x):
        return isinstance(x, str) and x in self.lines()

    def __iter__(self):
        return iter(self._entries)

    def __eq__(self, other):
        return isinstance(other, Log) and self._entries == other._entries

    def __repr__(self):
        return f"Log({self._entries})"


def is_command_line(value):
    """Whether any value is a command line."""
    if not isinstance(value, str) or not 1 <= len(value) <= LONGEST_LINE:
        return False
    if not all([" " <= sign <= "~" and ord(sign) != PERCENT for sign in value]):
        return False
    return value[0] != " " and value[-1] != " " and value.split(" ")[0] != "all"


def check_of(line):
    """The check of a command line."""
    if not is_command_line(line):
        raise InvalidCommand(line)
    return _check(line)


def bytes_of(log):
    """The text of the log as bytes."""
    return log.text().encode("ascii")


def wrong_entry(values):
    """The position of the first value that is no entry; None without one."""
    for position, value in enumerate(values):
        if not _is_entry(value):
            return position
    return None


def _is_entry(value):
    """Whether any value is a command line, or a tuple of one or more of them."""
    if isinstance(value, tuple):
        return len(value) > 0 and all([is_command_line(line) for line in value])
    return is_command_line(value)


def _lines_of(entry):
    return list(entry) if isinstance(entry, tuple) else [entry]


def _text_of(entry):
    """The lines of an entry in the text of a log."""
    lines = _lines_of(entry)
    head = [f"all {len(lines)}"] if isinstance(entry, tuple) else []
    return "".join([f"{line} {_check(line)}\n" for line in head + lines])


def _check(line):
    """Three figures that tell of a line whether a sign of it is another one, or two are exchanged."""
    total = sum([place * _place_of(sign) for place, sign in enumerate(line, start=1)])
    check = int(total) % CHECK_PRIME
    return f"{check:03d}"


def _place_of(sign):
    """The place of a sign, from 1 on, in the row of all signs from the space on but the percent sign."""
    code = ord(sign)
    return code - ord(" ") + int(code < PERCENT)


def _good_beginning(lines):
    """The entries of the good beginning of a text with these lines, and the number of its lines."""
    told = [_checked(line) for line in lines]
    entries = []
    many = 0
    while many < len(told) and len(entries) < MOST_ENTRIES:
        entry = _entry_at(told, many)
        if entry is None:
            break
        entries.append(entry)
        many = many + len(_lines_of(entry)) + int(isinstance(entry, tuple))
    return entries, many


def _checked(line):
    """What stands ahead of the check of a line; "" if there is no right check."""
    told = line[:-4]
    return told if line == f"{told} {_check(told)}" else ""


def _entry_at(told, at):
    """The entry whose lines begin at a place; None if there is none."""
    if is_command_line(told[at]):
        return told[at]
    first, _, rest = told[at].partition(" ")
    many = number_below(rest, len(told) - at) if first == "all" else None
    if not many:
        return None
    lines = told[at + 1:at + 1 + many]
    return tuple(lines) if all([is_command_line(line) for line in lines]) else None
