"""What commands ask of the parts of a net, which stay as they are."""

from netkeep.answers import answer
from netkeep.faults import NotGranted, UnknownReader
from netkeep.filled import wanted
from netkeep.sayings import said
from netkeep.told import told
from netkeep.upkeep import kept_letters


def answered(parts, first, words):
    """The answer to the command with this first word, by what its other words tell."""
    action = ANSWERS[first]
    return action(parts, *words)


def _ask(parts, name, word):
    if name not in parts["readers"]:
        raise UnknownReader(name)
    if word not in parts["readers"][name]:
        raise NotGranted(word)
    return _text(answer(parts["store"], word, parts["telling"]), parts["telling"])


def _told(parts, word):
    nodes, telling = parts["store"].nodes, parts["telling"]
    return _text(told(parts["lot"], word, nodes, parts["tables"], telling), telling)


def _say(parts, saying):
    return _text(said(parts["store"], saying), "whether")


def _wanted(parts):
    return _joined([f"{x}-{letter}-{y}" for x, letter, y in wanted(parts["store"], parts["rules"])])


def _up(parts):
    return kept_letters(parts["lot"]) or "none"


def _late(parts):
    return str(parts["late"])


def _text(found, telling):
    """The text of an answer."""
    if telling == "whether":
        return _joined([f"{x}-{y}" for x, y in found])
    numbers = [(x, y, number) for x, line in enumerate(found) for y, number in enumerate(line)]
    return _joined([f"{x}-{y}*{number}" for x, y, number in numbers if number > 0])


def _joined(texts):
    return " ".join(texts) or "none"


ANSWERS = {
    "ask": _ask,
    "told": _told,
    "say": _say,
    "wanted": _wanted,
    "up": _up,
    "late": _late,
}
