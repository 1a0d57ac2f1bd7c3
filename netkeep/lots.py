"""Lots: words whose answers are kept, and the kept answers."""

from netkeep.answers import answer, is_matrix, is_relation
from netkeep.checks import need_nodes, need_telling
from netkeep.errors import InvalidLot, InvalidWord, InvalidWords, TooMany, UnknownWord
from netkeep.ties import first_wrong, is_list
from netkeep.words import LETTERS, by_length, is_word


class Lot:
    """Some unlike words, at most eight; a lot never changes."""

    MOST_WORDS = 8

    def __init__(self, words=()):
        if not is_list(words):
            raise InvalidWords(None)
        wrong = first_wrong(words, [is_word(word) for word in words])
        if wrong is not None:
            raise InvalidWords(wrong)
        if len(words) > Lot.MOST_WORDS:
            raise TooMany("words", Lot.MOST_WORDS)
        self._words = by_length(words)

    def words(self):
        """The sorted list of its words."""
        return list(self._words)

    def letters(self):
        """The letters that its words have, rising."""
        together = "".join(self._words)
        return "".join([letter for letter in LETTERS if letter in together])

    def __add__(self, other):
        if not is_word(other) or other in self._words:
            raise InvalidWord(other)
        return Lot(self._words + [other])

    def __sub__(self, other):
        if not is_word(other) or other not in self._words:
            raise UnknownWord(other)
        return Lot([word for word in self._words if word != other])

    def __or__(self, other):
        if not isinstance(other, Lot):
            raise InvalidLot(other)
        return Lot(self._words + [word for word in other._words if word not in self._words])

    def __and__(self, other):
        if not isinstance(other, Lot):
            raise InvalidLot(other)
        return Lot([word for word in self._words if word in other._words])

    def __len__(self):
        return len(self._words)

    def __contains__(self, x):
        return is_word(x) and x in self._words

    def __iter__(self):
        return iter(self._words)

    def __eq__(self, other):
        return isinstance(other, Lot) and self._words == other._words

    def __repr__(self):
        return f"Lot({self._words})"


def kept_of(store, lot, telling):
    """The kept answers of the store."""
    need_telling(telling)
    return {word: answer(store, word, telling) for word in lot.words()}


def is_kept(lot, nodes, value, telling):
    """Whether any value is kept answers of so many nodes, of a store or not."""
    need_nodes(nodes)
    need_telling(telling)
    if not isinstance(value, dict) or len(value) != len(lot):
        return False
    if not all([word in lot for word in value]):
        return False
    if telling == "whether":
        return all([is_relation(nodes, value[word]) for word in value])
    return all([is_matrix(nodes, value[word]) for word in value])
