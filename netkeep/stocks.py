"""Stocks: lots of priced words that settle some questions, keep themselves up, and give no secret away."""

from netkeep.bridging import fits_cut, fits_plan
from netkeep.checks import need_few_secrets, need_number, need_prices, need_secrets
from netkeep.choosing import cheapest_of, price_of, some_of
from netkeep.errors import InvalidLetters, InvalidQuestions, InvalidWish, InvalidWords, TooMany
from netkeep.granting import Knowing, reason_of
from netkeep.lots import Lot
from netkeep.stretching import stretches_of
from netkeep.ties import first_wrong, is_list, is_rising
from netkeep.words import LETTERS, by_length, is_letter, is_word

MOST_QUESTIONS = 4


class Wish:
    """Questions to settle, letters to keep up, and secrets to hide; a wish never changes."""

    def __init__(self, questions=(), letters="", secrets=()):
        _need_questions(questions)
        if not _are_letters(letters):
            raise InvalidLetters(letters)
        need_secrets(secrets)
        if len(questions) > MOST_QUESTIONS:
            raise TooMany("questions", MOST_QUESTIONS)
        need_few_secrets(secrets)
        self._questions = list(questions)
        self._letters = letters
        self._secrets = list(secrets)

    def questions(self):
        """The list of its questions, as passed."""
        return list(self._questions)

    def letters(self):
        """Its letters, rising."""
        return self._letters

    def secrets(self):
        """The list of its secrets, as passed."""
        return list(self._secrets)

    def is_granted(self, lot):
        """Whether the lot settles, keeps itself up and hides as it wants."""
        return reason_of(Knowing(), self, lot.words(), lot.words()) is None

    def __or__(self, other):
        if not isinstance(other, Wish):
            raise InvalidWish(other)
        return Wish(
            self._questions + [word for word in other._questions if word not in self._questions],
            "".join([letter for letter in LETTERS if letter in self._letters + other._letters]),
            self._secrets + [word for word in other._secrets if word not in self._secrets],
        )

    def __eq__(self, other):
        return (
            isinstance(other, Wish)
            and self._questions == other._questions
            and self._letters == other._letters
            and self._secrets == other._secrets
        )

    def __repr__(self):
        return f"Wish({self._questions}, {self._letters!r}, {self._secrets})"


def stocks(prices, wish):
    """The list of all stocks, those of fewer words first."""
    _need(prices)
    return [Lot(words) for words in _stocks(prices, wish)]


def is_stock(prices, wish, value):
    """Whether any value is a lot that is a stock."""
    _need(prices)
    if not isinstance(value, Lot) or not all([word in prices for word in value]):
        return False
    return wish.is_granted(value)


def cheapest_stock(prices, wish):
    """The cheapest stock; None if there is none."""
    _need(prices)
    best = cheapest_of(prices, _stocks(prices, wish))
    return None if best is None else Lot(best)


def price_of_stock(prices, wish):
    """The price together of the cheapest stock; None if there is none."""
    _need(prices)
    best = cheapest_of(prices, _stocks(prices, wish))
    return None if best is None else price_of(prices, best)


def reason(prices, wish, lot):
    """A reason for which the lot is no stock; None if it is one."""
    need_prices(prices)
    for position, word in enumerate(lot):
        if word not in prices:
            raise InvalidWords(position)
    _need(prices)
    return reason_of(Knowing(), wish, lot.words(), lot.words())


def tree_of_reasons(prices, wish, number):
    """A tree of reasons against the number; None if some stock has a price of at most the number."""
    need_prices(prices)
    need_number(number)
    _need(prices)
    words = by_length(list(prices))
    return _tree(Knowing(), prices, wish, number, [], words, words)


def is_tree_of_reasons(prices, wish, number, value):
    """Whether any value is a tree of reasons against the number."""
    need_prices(prices)
    need_number(number)
    _need(prices)
    return _is_tree(prices, wish, number, [], by_length(list(prices)), value)


def _need_questions(questions):
    if not is_list(questions):
        raise InvalidQuestions(None)
    wrong = first_wrong(questions, [is_word(question) for question in questions])
    if wrong is not None:
        raise InvalidQuestions(wrong)


def _are_letters(value):
    return isinstance(value, str) and all([is_letter(sign) for sign in value]) and is_rising(value)


def _need(prices):
    need_prices(prices)
    if len(prices) > Lot.MOST_WORDS:
        raise TooMany("words", Lot.MOST_WORDS)


def _stocks(prices, wish):
    """The lists of the words of all stocks, shorter ones first."""
    knowing = Knowing()
    return [words for words in some_of(list(prices)) if reason_of(knowing, wish, words, words) is None]


def _tree(knowing, prices, wish, number, taken, able, free):
    """A tree where some words are taken, the able ones are not left, and the free ones are neither; None without."""
    if price_of(prices, taken) > number:
        return ("dear",)
    told = reason_of(knowing, wish, taken, able)
    if told is not None or not free:
        return told
    word, rest = free[0], free[1:]
    first = _tree(knowing, prices, wish, number, taken + [word], able, rest)
    if first is None:
        return None
    second = _tree(knowing, prices, wish, number, taken, [other for other in able if other != word], rest)
    if second is None:
        return None
    return "word", word, first, second


def _is_tree(prices, wish, number, taken, able, value):
    if not isinstance(value, tuple) or not value or not isinstance(value[0], str):
        return False
    if value[0] != "word":
        return _is_reason(prices, wish, number, taken, able, value)
    if len(value) != 4 or not is_word(value[1]) or value[1] not in able or value[1] in taken:
        return False
    word = value[1]
    left = [other for other in able if other != word]
    if not _is_tree(prices, wish, number, taken + [word], able, value[2]):
        return False
    return _is_tree(prices, wish, number, taken, left, value[3])


def _is_reason(prices, wish, number, taken, able, value):
    kind, parts = value[0], value[1:]
    if kind == "dear":
        return not parts and price_of(prices, taken) > number
    if kind == "cut" and len(parts) == 2:
        return is_word(parts[0]) and parts[0] in wish.questions() and fits_cut(able, parts[0], parts[1])
    if kind == "plan" and len(parts) == 2:
        return is_word(parts[0]) and parts[0] in wish.secrets() and fits_plan(taken, parts[0], parts[1])
    return kind == "stretch" and len(parts) == 4 and _is_stretch_cut(wish, taken, able, parts)


def _is_stretch_cut(wish, taken, able, parts):
    word, letter, stretch, cut = parts
    if not is_word(word) or word not in taken or not is_letter(letter) or letter not in wish.letters():
        return False
    if not is_word(stretch) or stretch not in stretches_of(word, letter):
        return False
    return fits_cut(able, stretch, cut)
