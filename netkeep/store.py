"""Stores: numbered nodes, joined by named ties."""

from netkeep.errors import (
    InvalidLetter,
    InvalidNode,
    InvalidNodes,
    InvalidOrder,
    InvalidStore,
    InvalidTie,
    InvalidTies,
    InvalidWord,
    TooMany,
)
from netkeep.ties import first_wrong, is_below, is_list, is_order, is_tie
from netkeep.words import is_integer, is_letter, is_word


class Store:
    """One or more nodes and the ties between them; a store never changes."""

    MOST_NODES = 40
    MOST_TIES = 400

    def __init__(self, nodes, ties=()):
        if not is_integer(nodes) or not 1 <= nodes <= Store.MOST_NODES:
            raise InvalidNodes(nodes)
        if not is_list(ties):
            raise InvalidTies(None)
        wrong = first_wrong(ties, [is_tie(tie, nodes) for tie in ties])
        if wrong is not None:
            raise InvalidTies(wrong)
        if len(ties) > Store.MOST_TIES:
            raise TooMany("ties", Store.MOST_TIES)
        self._nodes = nodes
        self._ties = sorted(ties)
        self._there = {tie: True for tie in ties}

    @property
    def nodes(self):
        """How many nodes it has."""
        return self._nodes

    def ties(self):
        """The sorted list of its ties."""
        return list(self._ties)

    def letters(self):
        """The unlike letters of its ties, rising."""
        return "".join(sorted({tie[1] for tie in self._ties}))

    def goals(self, node, letter):
        """The sorted list of the nodes to which ties of this letter lead from the node."""
        self._need_ends(node, letter)
        return [tie[2] for tie in self._ties if tie[0] == node and tie[1] == letter]

    def sources(self, node, letter):
        """The sorted list of the nodes from which ties of this letter lead to the node."""
        self._need_ends(node, letter)
        return [tie[0] for tie in self._ties if tie[2] == node and tie[1] == letter]

    def has(self, tie):
        """Whether the tie is there."""
        self._need_tie(tie)
        return tie in self._there

    def put(self, tie):
        """The store with the tie, and whether this was done."""
        self._need_tie(tie)
        if tie in self._there:
            return self, False
        return Store(self._nodes, self._ties + [tie]), True

    def strike(self, tie):
        """The store without the tie, and whether this was done."""
        self._need_tie(tie)
        if tie not in self._there:
            return self, False
        return Store(self._nodes, [other for other in self._ties if other != tie]), True

    def renumbered(self, order):
        """The store in which node order[k] is called k."""
        if not is_order(order, self._nodes):
            raise InvalidOrder(order)
        called = {node: number for number, node in enumerate(order)}
        return Store(self._nodes, [(called[x], letter, called[y]) for x, letter, y in self._ties])

    def beside(self, other):
        """The store that has this one and the other one, whose nodes are numbered on behind those of this one."""
        if not isinstance(other, Store):
            raise InvalidStore(other)
        if self._nodes + other.nodes > Store.MOST_NODES:
            raise TooMany("nodes", Store.MOST_NODES)
        moved = [(x + self._nodes, letter, y + self._nodes) for x, letter, y in other.ties()]
        return Store(self._nodes + other.nodes, self._ties + moved)

    @staticmethod
    def row(word):
        """The row of the word: one tie behind another, one for each of its letters."""
        if not is_word(word):
            raise InvalidWord(word)
        return Store(len(word) + 1, [(place, letter, place + 1) for place, letter in enumerate(word)])

    def __add__(self, other):
        return self.put(other)[0]

    def __sub__(self, other):
        return self.strike(other)[0]

    def __invert__(self):
        return Store(self._nodes, [(y, letter, x) for x, letter, y in self._ties])

    def __len__(self):
        return len(self._ties)

    def __contains__(self, x):
        # The form is looked at first: (True, "a", 2) is equal to (1, "a", 2), but it is no tie.
        return is_tie(x, self._nodes) and x in self._there

    def __eq__(self, other):
        return isinstance(other, Store) and self._nodes == other._nodes and self._ties == other._ties

    def __repr__(self):
        return f"Store({self._nodes}, {self._ties})"

    def _need_ends(self, node, letter):
        if not is_below(node, self._nodes):
            raise InvalidNode(node)
        if not is_letter(letter):
            raise InvalidLetter(letter)

    def _need_tie(self, tie):
        if not is_tie(tie, self._nodes):
            raise InvalidTie(tie)
