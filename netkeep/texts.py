"""Texts of stores, questions, rules, lots and kinds, and what reads them."""

from netkeep.faults import InvalidText
from netkeep.filling import MOST_RULES, fits_rule, need_few, need_rules
from netkeep.kinds import MOST_DEEDS, MOST_MARKS, Kind
from netkeep.lots import Lot
from netkeep.questions import Question
from netkeep.reading import head_words, need_end, number_below, numbers_below, parted_lines, triples_in
from netkeep.signs import SIGNS
from netkeep.store import Store
from netkeep.ties import is_rising
from netkeep.words import LETTERS, by_length, is_word


def text_of(entry):
    """The text of a store, a question, a lot or a kind."""
    if isinstance(entry, Store):
        return _text([["store", entry.nodes]] + [["tie", *tie] for tie in entry.ties()])
    if isinstance(entry, Question):
        return _text([["question", entry.standings, *entry.ends()]] + [["step", *step] for step in entry.steps()])
    if isinstance(entry, Lot):
        return _text([["lot", *entry.words()]])
    marks = list(zip(entry.counting(), entry.table()))
    return _text([["kind", entry.deed_count]] + [["there" if counts else "gone", *goals] for counts, goals in marks])


def rules_text(rules):
    """The text of rules."""
    need_rules(rules)
    need_few(rules)
    return _text([["rules"]] + [["rule", *rule] for rule in rules])


def read_store(text):
    """The store with just this text."""
    lines, rest = parted_lines(text)
    numbers = numbers_below(head_words(lines, "store"), Store.MOST_NODES + 1)
    if numbers is None or len(numbers) != 1 or numbers[0] == 0:
        raise InvalidText(1)
    ties = triples_in(lines, "tie", numbers[0], LETTERS, Store.MOST_TIES)
    need_end(lines, rest)
    return Store(numbers[0], ties)


def read_question(text):
    """The question with just this text."""
    lines, rest = parted_lines(text)
    numbers = numbers_below(head_words(lines, "question"), Question.MOST_STANDINGS + 1)
    if not numbers or not is_rising(numbers[1:]) or max(numbers[1:], default=0) >= numbers[0]:
        raise InvalidText(1)
    # Of steps there may be as many as there are unlike ones.
    steps = triples_in(lines, "step", numbers[0], SIGNS, len(lines))
    need_end(lines, rest)
    return Question(numbers[0], steps, numbers[1:])


def read_rules(text):
    """The list of the rules with just this text."""
    lines, rest = parted_lines(text)
    if head_words(lines, "rules"):
        raise InvalidText(1)
    rules = []
    for at, line in enumerate(lines[1:], start=2):
        words = line.split(" ")
        rule = tuple(words[1:])
        if words[0] != "rule" or not fits_rule(rule) or rule in rules or len(rules) == MOST_RULES:
            raise InvalidText(at)
        rules.append(rule)
    need_end(lines, rest)
    return rules


def read_lot(text):
    """The lot with just this text."""
    lines, rest = parted_lines(text)
    words = head_words(lines, "lot")
    if not all([is_word(word) for word in words]) or len(words) > Lot.MOST_WORDS:
        raise InvalidText(1)
    if len({word for word in words}) != len(words) or by_length(words) != words:
        raise InvalidText(1)
    if len(lines) > 1:
        raise InvalidText(2)
    need_end(lines, rest)
    return Lot(words)


def read_kind(text):
    """The kind with just this text."""
    lines, rest = parted_lines(text)
    words = head_words(lines, "kind")
    deeds = number_below(words[0], MOST_DEEDS + 1) if len(words) == 1 else None
    if not deeds:
        raise InvalidText(1)
    marks = []
    for at, line in enumerate(lines[1:], start=2):
        words = line.split(" ")
        goals = numbers_below(words[1:], MOST_MARKS)
        if words[0] not in ("there", "gone") or goals is None or len(goals) != deeds or len(marks) == MOST_MARKS:
            raise InvalidText(at)
        marks.append((goals, words[0] == "there"))
    need_end(lines, rest, not marks or max([max(goals) for goals, _ in marks]) >= len(marks))
    return Kind([goals for goals, _ in marks], [counts for _, counts in marks])


def _text(lines):
    """The text of lines that are told by lists of words and numbers."""
    return "".join([" ".join([str(part) for part in line]) + "\n" for line in lines])
