"""Commands: the words of their lines, and what these tell."""

from netkeep.faults import InvalidCommand, InvalidSaying
from netkeep.log import is_command_line
from netkeep.reading import number_in
from netkeep.sayings import Saying
from netkeep.words import is_letter, is_name, is_word

# What stands behind the first word of each command but "say", whose saying has blanks of its own.
FORMS = {
    "put": ("node", "letter", "node"),
    "strike": ("node", "letter", "node"),
    "fill": (),
    "rule": ("word", "letter"),
    "unrule": ("word", "letter"),
    "keep": ("word",),
    "drop": ("word",),
    "refresh": (),
    "grant": ("name", "word"),
    "revoke": ("name", "word"),
    "hide": ("word",),
    "show": ("word",),
    "undo": (),
    "redo": (),
    "ask": ("name", "word"),
    "told": ("word",),
    "wanted": (),
    "up": (),
    "late": (),
}


def read_command(command):
    """The first word of a command, and the list of what the others tell; refused if any value is no command."""
    if not is_command_line(command):
        raise InvalidCommand(command)
    first, _, rest = command.partition(" ")
    if first == "say":
        return first, [_saying_in(command, rest)]
    words = command.split(" ")[1:]
    kinds = FORMS.get(first)
    if kinds is None or len(kinds) != len(words):
        raise InvalidCommand(command)
    told = [_worth(kind, word) for kind, word in zip(kinds, words)]
    if None in told:
        raise InvalidCommand(command)
    return first, told


def _saying_in(command, text):
    try:
        return Saying.read(text)
    except InvalidSaying:
        raise InvalidCommand(command) from None


def _worth(kind, word):
    """What a word of a command tells; None if it is no such word. (Nodes may be none of the store.)"""
    if kind == "node":
        return number_in(word)
    if kind == "letter":
        return word if is_letter(word) else None
    if kind == "name":
        return word if is_name(word) else None
    return word if is_word(word) else None
