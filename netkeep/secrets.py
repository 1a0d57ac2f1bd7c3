"""Secrets: what a lot gives away, and which words are withheld so that it does not."""

from netkeep.bridging import fits_plan, least_plan, settles
from netkeep.checks import need_few_secrets, need_number, need_prices, need_secrets, need_word
from netkeep.choosing import cheapest_of, price_of, some_of
from netkeep.errors import InvalidPrices
from netkeep.ties import is_below, is_list
from netkeep.words import by_length, is_word


def gives_away(lot, secret):
    """Whether the lot gives away the secret."""
    need_word(secret)
    return settles(lot.words(), secret)


def hidden(lot, secrets):
    """The list of the secrets that are hidden, in their sequence."""
    need_secrets(secrets)
    need_few_secrets(secrets)
    return [secret for secret in secrets if not settles(lot.words(), secret)]


def is_withholding(lot, prices, secrets, value):
    """Whether any value is a withholding."""
    _need(lot, prices, secrets)
    if not is_list(value) or not all([is_word(word) and word in prices for word in value]):
        return False
    if len({word for word in value}) != len(value):
        return False
    return _hides(lot, value, secrets)


def least_withholdings(lot, prices, secrets):
    """The list of all least withholdings, each sorted; those with fewer words first."""
    _need(lot, prices, secrets)
    found = []
    for choice in _withholdings(lot, prices, secrets):
        # With any withholding, more words are one as well; so only those within this one can stand against it.
        if not any([all([word in choice for word in less]) for less in found]):
            found.append(choice)
    return found


def cheapest_withholding(lot, prices, secrets):
    """The sorted list of the cheapest withholding; None if there is none."""
    _need(lot, prices, secrets)
    return cheapest_of(prices, _withholdings(lot, prices, secrets))


def price_of_hiding(lot, prices, secrets):
    """The price of the cheapest withholding; None if there is none."""
    best = cheapest_withholding(lot, prices, secrets)
    if best is None:
        return None
    return price_of(prices, best)


def tree_of_plans(lot, prices, secrets, number):
    """A tree of plans against the number; None if some withholding has a price of at most the number."""
    _need_number(lot, prices, secrets, number)
    return _tree(lot.words(), prices, secrets, number, [])


def is_tree_of_plans(lot, prices, secrets, number, value):
    """Whether any value is a tree of plans against the number."""
    _need_number(lot, prices, secrets, number)
    return _is_tree(lot.words(), prices, secrets, number, [], value)


def _need(lot, prices, secrets):
    _need_priced(lot, prices)
    need_secrets(secrets)
    need_few_secrets(secrets)


def _need_number(lot, prices, secrets, number):
    _need_priced(lot, prices)
    need_secrets(secrets)
    need_number(number)
    need_few_secrets(secrets)


def _need_priced(lot, prices):
    need_prices(prices)
    if not all([word in lot for word in prices]):
        raise InvalidPrices(prices)


def _hides(lot, withheld, secrets):
    left = [word for word in lot.words() if word not in withheld]
    return not any([settles(left, secret) for secret in secrets])


def _withholdings(lot, prices, secrets):
    return [choice for choice in some_of(list(prices)) if _hides(lot, choice, secrets)]


def _tree(words, prices, secrets, number, kept):
    """A tree of plans by the words that are left, some of them kept for good; None if there is none."""
    for position, secret in enumerate(secrets):
        steps = least_plan(words, secret)
        if steps is not None:
            branches = []
            for word in _open_words(steps, prices, number, kept):
                left = [other for other in words if other != word]
                ahead = [other for other, _ in branches]
                tree = _tree(left, prices, secrets, number - prices[word], kept + ahead)
                if tree is None:
                    return None
                branches.append((word, tree))
            return position, steps, branches
    return None


def _is_tree(words, prices, secrets, number, kept, value):
    if not isinstance(value, tuple) or len(value) != 3 or not is_below(value[0], len(secrets)):
        return False
    position, steps, branches = value
    if not fits_plan(words, secrets[position], steps) or not is_list(branches):
        return False
    wanted = _open_words(steps, prices, number, kept)
    if len(branches) != len(wanted):
        return False
    for at, word in enumerate(wanted):
        branch = branches[at]
        if not isinstance(branch, tuple) or len(branch) != 2 or not is_word(branch[0]) or branch[0] != word:
            return False
        left = [other for other in words if other != word]
        if not _is_tree(left, prices, secrets, number - prices[word], kept + wanted[:at], branch[1]):
            return False
    return True


def _open_words(steps, prices, number, kept):
    """The unlike words of a plan, sorted, that can be withheld for at most the number."""
    words = by_length(list({word: True for _, word, _ in steps}))
    return [word for word in words if word in prices and word not in kept and prices[word] <= number]
