"""Sayings: what is asked by "then", "or", "again" and "perhaps", and whether two of them ask the same."""

from netkeep.checks import need_word
from netkeep.errors import TooMany
from netkeep.faults import InvalidSaying
from netkeep.following import question_by_leaves
from netkeep.making import made
from netkeep.masks import couples_of
from netkeep.signs import sign_rows
from netkeep.trees import can_be_empty, is_tree, leaf_signs, read_tree, sizes, text_of_tree, turned_round
from netkeep.within import are_alike, lies_within, parting

MOST_LEAVES = 8
MOST_PARTS = 15


class Saying:
    """A tree of signs; a saying never changes."""

    def __init__(self, tree):
        if not is_tree(tree):
            raise InvalidSaying(tree)
        leaves, parts = sizes(tree)
        if leaves > MOST_LEAVES:
            raise TooMany("leaves", MOST_LEAVES)
        if parts > MOST_PARTS:
            raise TooMany("parts", MOST_PARTS)
        self._tree = tree

    @staticmethod
    def of(word):
        """The saying of the letters of a word, joined by "then" from the left."""
        need_word(word)
        tree = word[0]
        for letter in word[1:]:
            tree = ("then", tree, letter)
        return Saying(tree)

    @staticmethod
    def read(text):
        """The saying with just this text."""
        tree = read_tree(text) if isinstance(text, str) else None
        if tree is None:
            raise InvalidSaying(text)
        return Saying(tree)

    @property
    def shape(self):
        """Its tree."""
        return self._tree

    @property
    def many_parts(self):
        """How many parts it has."""
        return sizes(self._tree)[1]

    @property
    def may_be_empty(self):
        """Whether it may be empty."""
        return can_be_empty(self._tree)

    def leaves(self):
        """The list of its signs, from left to right."""
        return leaf_signs(self._tree)

    def text(self):
        """Its text."""
        return text_of_tree(self._tree)

    def again(self):
        """This saying, once or several times."""
        return Saying(("again", self._tree))

    def perhaps(self):
        """This saying, or nothing."""
        return Saying(("perhaps", self._tree))

    def __mul__(self, other):
        if not isinstance(other, Saying):
            raise InvalidSaying(other)
        return Saying(("then", self._tree, other._tree))

    def __or__(self, other):
        if not isinstance(other, Saying):
            raise InvalidSaying(other)
        return Saying(("or", self._tree, other._tree))

    def __invert__(self):
        return Saying(turned_round(self._tree))

    def __len__(self):
        return len(leaf_signs(self._tree))

    def __eq__(self, other):
        return isinstance(other, Saying) and self._tree == other._tree

    def __repr__(self):
        return f"Saying({self._tree!r})"


def said(store, saying):
    """The relation that the saying tells of the store."""
    return couples_of(_rows(saying.shape, sign_rows(store)))


def question_of(saying):
    """The question that has the same answer in each store."""
    return question_by_leaves(saying.shape)


def says_within(one, other):
    """Whether in all stores the answer of one is within that of other."""
    return lies_within(question_of(one), question_of(other))


def says_alike(one, other):
    """Whether in all stores the answers of both are the same."""
    return are_alike(question_of(one), question_of(other))


def says_apart(one, other):
    """The least parting of their questions; None if there is none."""
    return parting(question_of(one), question_of(other))


def _rows(tree, signs):
    """The rows of what a tree tells, by those of the signs."""
    if isinstance(tree, str):
        return signs[tree]
    return made(tree[0], [_rows(part, signs) for part in tree[1:]])
