"""The errors that belong to parameters of the same names everywhere."""

from netkeep.errors import (
    InvalidLetter,
    InvalidNode,
    InvalidNodes,
    InvalidNumber,
    InvalidPrices,
    InvalidSecrets,
    InvalidTelling,
    InvalidTie,
    InvalidWord,
    TooMany,
)
from netkeep.store import Store
from netkeep.ties import first_wrong, is_below, is_list, is_tie
from netkeep.words import is_count, is_integer, is_letter, is_word

MOST_SECRETS = 4


def need_word(word):
    """Refuse what is no word."""
    if not is_word(word):
        raise InvalidWord(word)


def need_letter(letter):
    """Refuse what is no letter."""
    if not is_letter(letter):
        raise InvalidLetter(letter)


def need_nodes(nodes):
    """Refuse what is no number of nodes of a store."""
    if not is_integer(nodes) or not 1 <= nodes <= Store.MOST_NODES:
        raise InvalidNodes(nodes)


def need_node(node, nodes):
    """Refuse what is no node of so many."""
    if not is_below(node, nodes):
        raise InvalidNode(node)


def need_tie(tie, nodes):
    """Refuse what is no tie between so many nodes."""
    if not is_tie(tie, nodes):
        raise InvalidTie(tie)


def need_telling(telling):
    """Refuse what is neither "whether" nor "many"."""
    if not isinstance(telling, str) or telling not in ("whether", "many"):
        raise InvalidTelling(telling)


def need_number(number):
    """Refuse what is no count."""
    if not is_count(number):
        raise InvalidNumber(number)


def need_prices(prices):
    """Refuse what is no dict from one or more words to counts."""
    if not isinstance(prices, dict) or not prices:
        raise InvalidPrices(prices)
    if not all([is_word(word) and is_count(prices[word]) for word in prices]):
        raise InvalidPrices(prices)


def need_secrets(secrets):
    """Refuse what is no list of unlike words."""
    if not is_list(secrets):
        raise InvalidSecrets(None)
    wrong = first_wrong(secrets, [is_word(secret) for secret in secrets])
    if wrong is not None:
        raise InvalidSecrets(wrong)


def need_few_secrets(secrets):
    """Refuse too many secrets; the errors of all parameters come first."""
    if len(secrets) > MOST_SECRETS:
        raise TooMany("secrets", MOST_SECRETS)
