"""The errors that belong to parameters of the same names everywhere."""

from netkeep.errors import InvalidNode, InvalidNodes, InvalidTelling, InvalidTie, InvalidWord
from netkeep.store import Store
from netkeep.ties import is_below, is_tie
from netkeep.words import is_integer, is_word


def need_word(word):
    """Refuse what is no word."""
    if not is_word(word):
        raise InvalidWord(word)


def need_nodes(nodes):
    """Refuse what is no number of nodes of a store."""
    if not is_integer(nodes) or not 1 <= nodes <= Store.MOST_NODES:
        raise InvalidNodes(nodes)


def need_node(node, nodes):
    """Refuse what is no node of so many."""
    if not is_below(node, nodes):
        raise InvalidNode(node)


def need_tie(tie, nodes):
    """Refuse what is no tie between so many nodes."""
    if not is_tie(tie, nodes):
        raise InvalidTie(tie)


def need_telling(telling):
    """Refuse what is neither "whether" nor "many"."""
    if not isinstance(telling, str) or telling not in ("whether", "many"):
        raise InvalidTelling(telling)
