"""Points [54] and [55], and netkeep/stocks.py: wishes, stocks, and trees of reasons."""

import itertools
import random
import unittest

from netkeep.errors import (
    InvalidLetters, InvalidNumber, InvalidPrices, InvalidQuestions, InvalidSecrets, InvalidWish, InvalidWords,
)
from netkeep.lots import Lot
from netkeep.stocks import (
    Wish, cheapest_stock, is_stock, is_tree_of_reasons, price_of_stock, reason, stocks, tree_of_reasons,
)
from support import (
    Case, Odd, as_words, otherwise, slow_is_cut, slow_is_plan, slow_keeps_up, slow_settles, slow_stretches, some_words,
    wrong_values,
)

PRICES = {"a": 2, "b": 1, "ab": 2}
WISH = Wish(["ab"], "b")
WRONG_WORDS = wrong_values() + ["aaaaaaaaaaaaa", "g", "aB"]
WRONG_LISTS = [None, True, 0, "abc", "", {}, {"a": 1}, Lot(["a"]), Odd()]
WRONG_PRICES = wrong_values() + [{"ab": -1}, {"ab": True}, {"ab": None}, {"ab": "1"}, {"ab": 1, 0: 1}, {None: 1},
                                 {("ab",): 1}, {"AB": 1}, {"": 1}, {"a" * 13: 1}, [("ab", 1)], Lot(["a"])]
WRONG_PRICES = [value for value in WRONG_PRICES if repr(value) != "{'a': 1}"]
FIVE = ["a", "b", "c", "d", "e"]
NINE = {word: 1 for word in ["a", "b", "c", "d", "e", "f", "aa", "bb", "cc"]}


def slow_grants(words, wish):
    """Whether words are granted by a wish."""
    return (all(slow_settles(words, question) for question in wish.questions())
            and all(slow_keeps_up(words, letter) for letter in wish.letters())
            and not any(slow_settles(words, secret) for secret in wish.secrets()))


def slow_stocks(prices, wish):
    """The words of all stocks, tried one by one."""
    words = sorted(prices, key=lambda word: (len(word), word))
    every = [list(some) for many in range(len(words) + 1) for some in itertools.combinations(words, many)]
    every = sorted(every, key=lambda some: (len(some), as_words(some)))
    return [some for some in every if slow_grants(some, wish)]


def slow_is_reason(prices, wish, number, taken, left, value):
    """Whether a value is a reason where some words are taken and some left."""
    if type(value) is not tuple or not value or any(type(part) is not str for part in value[:1]):
        return False
    able = [word for word in prices if word not in left]
    kind = value[0]
    if kind == "dear":
        return len(value) == 1 and sum(prices[word] for word in taken) > number
    if kind == "cut":
        return (len(value) == 3 and type(value[1]) is str and value[1] in wish.questions()
                and slow_is_cut(able, value[1], value[2]))
    if kind == "plan":
        return (len(value) == 3 and type(value[1]) is str and value[1] in wish.secrets()
                and slow_is_plan(taken, value[1], value[2]))
    if kind != "stretch" or len(value) != 5 or any(type(part) is not str for part in value[1:4]):
        return False
    _, word, letter, stretch, cut = value
    return (word in taken and letter in list(wish.letters()) and stretch != "" and stretch in slow_stretches(word, letter)
            and slow_is_cut(able, stretch, cut))


def slow_is_tree(prices, wish, number, value, taken=(), left=()):
    """Whether a value is a tree of reasons, as the point says it."""
    if type(value) is tuple and len(value) == 4 and type(value[0]) is str and value[0] == "word":
        word = value[1]
        if type(word) is not str or word not in prices or word in taken or word in left:
            return False
        return (slow_is_tree(prices, wish, number, value[2], (*taken, word), left)
                and slow_is_tree(prices, wish, number, value[3], taken, (*left, word)))
    return slow_is_reason(prices, wish, number, taken, left, value)


class Wishes(Case):
    def test_parts(self):
        wish = Wish(["abc", "b"], "bd", ["c", "aa"])
        self.assertEqual((wish.questions(), wish.letters(), wish.secrets()), (["abc", "b"], "bd", ["c", "aa"]))
        self.assertEqual(repr(wish), "Wish(['abc', 'b'], 'bd', ['c', 'aa'])")
        self.assertEqual(repr(WISH), "Wish(['ab'], 'b', [])")
        for empty in (Wish(), Wish([], "", []), Wish((), "", ()), Wish(questions=[], letters="", secrets=[])):
            self.assertEqual((empty.questions(), empty.letters(), empty.secrets()), ([], "", []))
            self.assertEqual(repr(empty), "Wish([], '', [])")
        self.assertEqual(Wish(("a",), "abcdef", ("b", "a")), Wish(["a"], "abcdef", ["b", "a"]))

    def test_copies_and_new_lists(self):
        questions, secrets = ["a"], ["b"]
        wish = Wish(questions, "", secrets)
        questions.append("c")
        secrets.append("c")
        wish.questions().append("d")
        wish.secrets().append("d")
        self.assertEqual((wish.questions(), wish.secrets()), (["a"], ["b"]))

    def test_equal_in_their_sequence(self):
        self.assertTrue(Wish(["a", "b"], "a", ["c"]) == Wish(("a", "b"), "a", ("c",)))
        self.assertFalse(Wish(["a", "b"]) != Wish(["a", "b"]))
        for other in (Wish(["b", "a"], "a", ["c"]), Wish(["a", "b"], "ab", ["c"]), Wish(["a", "b"], "a", ["c", "d"]),
                      Wish(["a", "b"], "a"), Wish(), None, "Wish(['a', 'b'], 'a', ['c'])", (["a", "b"], "a", ["c"]), Odd()):
            self.assertFalse(Wish(["a", "b"], "a", ["c"]) == other)
            self.assertTrue(Wish(["a", "b"], "a", ["c"]) != other)

    def test_or(self):
        one, other = Wish(["abc", "b"], "bd", ["c", "aa"]), Wish(["a", "b"], "ad", ["aa", "b"])
        self.assertEqual(one | other, Wish(["abc", "b", "a"], "abd", ["c", "aa", "b"]))
        self.assertEqual(other | one, Wish(["a", "b", "abc"], "abd", ["aa", "b", "c"]))
        self.assertEqual(one | Wish(), one)
        self.assertEqual(Wish() | one, one)
        for value in wrong_values() + [Wish, "Wish()", Lot(), []]:
            self.refuses(InvalidWish, {"value": value}, lambda: one | value)
        self.too_many("questions", 4, lambda: Wish(FIVE[:4]) | Wish(FIVE[1:]))
        self.too_many("secrets", 4, lambda: Wish(secrets=FIVE[:4]) | Wish(secrets=FIVE[1:]))
        self.too_many("questions", 4, lambda: Wish(FIVE[:4], "", FIVE[:4]) | Wish(FIVE[1:], "", FIVE[1:]))
        self.assertEqual(Wish(FIVE[:4]) | Wish(FIVE[:4]), Wish(FIVE[:4]))
        self.assertEqual((one.questions(), other.letters()), (["abc", "b"], "ad"))

    def test_errors_in_sequence(self):
        for value in WRONG_LISTS:
            self.refuses(InvalidQuestions, {"position": None}, Wish, value, None, None)
            self.refuses(InvalidSecrets, {"position": None}, Wish, FIVE, "", value)
        for value in WRONG_WORDS:
            self.refuses(InvalidQuestions, {"position": 0}, Wish, [value], None, None)
            self.refuses(InvalidQuestions, {"position": 5}, Wish, FIVE + [value], None, None)
            self.refuses(InvalidSecrets, {"position": 1}, Wish, FIVE, "", ("a", value))
        self.refuses(InvalidQuestions, {"position": 2}, Wish, ["a", "ab", "a"])
        self.refuses(InvalidSecrets, {"position": 1}, Wish, [], "", ["a", "a"])
        for value in wrong_values() + ["ba", "aa", "ag", "A", "a b", ["a"], ("a", "b"), "abcdeff"]:
            if not isinstance(value, str) or value != "":
                self.refuses(InvalidLetters, {"value": value}, Wish, FIVE, value, None)
        self.too_many("questions", 4, Wish, FIVE, "", FIVE)
        self.too_many("secrets", 4, Wish, FIVE[:4], "", FIVE)
        self.assertEqual(len(Wish(FIVE[:4], "", FIVE[:4]).questions()), 4)

    def test_is_granted(self):
        self.is_bool(True, WISH.is_granted(Lot(["a", "b"])))
        self.is_bool(False, WISH.is_granted(lot=Lot(["ab"])))
        self.is_bool(True, Wish().is_granted(Lot()))
        self.is_bool(True, Wish(secrets=["ab"]).is_granted(Lot(["a"])))
        self.is_bool(False, Wish(secrets=["ab"]).is_granted(Lot(["a", "b"])))
        self.is_bool(False, Wish(["c"]).is_granted(Lot(["a", "b"])))
        self.is_bool(True, Wish([], "a").is_granted(Lot(["ab", "b", "cc"])))
        self.is_bool(False, Wish([], "ab").is_granted(Lot(["ab", "b", "cc"])))
        # Words without a price are words of a lot as well.
        self.is_bool(True, Wish(["abc"], "", ["a"]).is_granted(Lot(["ab", "b", "bc", "f" * 12])))


class Stocks(Case):
    def test_ordinary(self):
        self.assertEqual([lot.words() for lot in stocks(PRICES, WISH)], [["a", "b"], ["a", "ab"], ["a", "b", "ab"]])
        self.assertEqual(stocks(prices=PRICES, wish=Wish(["f"])), [])
        self.assertEqual(cheapest_stock(PRICES, WISH), Lot(["a", "b"]))
        self.assertEqual(cheapest_stock(prices=PRICES, wish=WISH | Wish(secrets=["b"])), Lot(["a", "ab"]))
        self.assertEqual(price_of_stock(prices=PRICES, wish=WISH), 3)
        self.assertIsNone(cheapest_stock(PRICES, Wish(["f"])))
        self.assertIsNone(price_of_stock(PRICES, Wish(["f"])))
        self.assertIsNone(price_of_stock(PRICES, Wish(["a"], "", ["a"])))
        self.assertEqual((cheapest_stock(PRICES, Wish()), price_of_stock(PRICES, Wish())), (Lot(), 0))
        self.assertEqual(len(stocks(PRICES, Wish())), 8)

    def test_is_stock(self):
        self.is_bool(True, is_stock(PRICES, WISH, Lot(["b", "a"])))
        self.is_bool(False, is_stock(prices=PRICES, wish=WISH, value=Lot(["ab"])))
        # A word without a price is in no stock.
        self.is_bool(False, is_stock(PRICES, WISH, Lot(["a", "b", "c"])))
        self.is_bool(True, is_stock(PRICES, Wish(), Lot()))
        for value in wrong_values() + [["a", "b"], ("a", "b"), "Lot(['a', 'b'])", PRICES, WISH, Lot]:
            self.is_bool(False, is_stock(PRICES, WISH, value))

    def test_the_cheapest_one_among_equals(self):
        self.assertEqual(cheapest_stock({"a": 1, "b": 1, "ab": 2}, Wish(["ab"])), Lot(["ab"]))
        self.assertEqual(cheapest_stock({"aa": 1, "b": 1, "aab": 2, "ba": 0}, Wish(["b"])), Lot(["b"]))
        self.assertEqual(cheapest_stock({"ab": 1, "a": 0, "b": 0}, Wish(["ab"])), Lot(["a", "b"]))
        self.assertEqual(cheapest_stock({"ab": 0, "a": 0, "b": 0}, Wish(["ab"])), Lot(["ab"]))
        self.assertEqual(price_of_stock({"ab": 10 ** 29 + 1, "a": 10 ** 29, "b": 1}, Wish(["ab"])), 10 ** 29 + 1)
        self.assertEqual(cheapest_stock({"ab": 10 ** 29 + 1, "a": 10 ** 29, "b": 1}, Wish(["ab"])), Lot(["ab"]))

    def some_case(self, rng, longest=3):
        words = some_words(rng, rng.randint(1, 6), "ab", longest)
        prices = {word: rng.choice((0, 1, 1, 2, 3, 10 ** 28)) for word in words}
        wish = Wish(some_words(rng, rng.choice((0, 0, 1, 1, 2, 3)), "ab", 4), rng.choice(("", "a", "b", "ab", "abc", "")),
                    some_words(rng, rng.choice((0, 1, 1, 2, 4)), "ab", 4))
        return prices, wish

    def test_against_trying_all(self):
        rng = random.Random(121)
        some, none = 0, 0
        for _ in range(250):
            prices, wish = self.some_case(rng)
            every = slow_stocks(prices, wish)
            self.assertEqual([lot.words() for lot in stocks(prices, wish)], every)
            best = min(every, key=lambda one: (sum(prices[word] for word in one), len(one), as_words(one)), default=None)
            price = None if best is None else sum(prices[word] for word in best)
            self.assertEqual(cheapest_stock(prices, wish), None if best is None else Lot(best))
            self.assertEqual(price_of_stock(prices, wish), price)
            some, none = some + (best is not None), none + (best is None)
            self.look_at_lots(rng, prices, wish, every)
            self.look_at_trees(prices, wish, price)
        self.assertGreater(min(some, none), 40)

    def look_at_lots(self, rng, prices, wish, every):
        words = sorted(prices)
        for _ in range(8):
            lot = Lot(rng.sample(words, rng.randint(0, len(words))))
            good = lot.words() in every
            self.is_bool(good, is_stock(prices, wish, lot))
            self.is_bool(good, wish.is_granted(lot))
            told = reason(prices, wish, lot)
            self.assertEqual(told is None, good)
            if told is not None:
                left = [word for word in words if word not in lot]
                self.assertIn(told[0], ("cut", "plan", "stretch"))
                self.assertTrue(slow_is_reason(prices, wish, 0, lot.words(), left, told))

    def look_at_trees(self, prices, wish, price):
        for number in (0, 1, 2, 4, 10 ** 28, 10 ** 30):
            tree = tree_of_reasons(prices, wish, number)
            self.assertEqual(tree is None, price is not None and price <= number)
            self.is_bool(tree is not None, is_tree_of_reasons(prices, wish, number, tree))
            if tree is not None:
                self.assertTrue(slow_is_tree(prices, wish, number, tree))
                for other in (0, 2, 10 ** 30):
                    self.is_bool(slow_is_tree(prices, wish, other, tree), is_tree_of_reasons(prices, wish, other, tree))

    def test_eight_words(self):
        prices = {"a" * many: many for many in range(1, 9)}
        wish = Wish(["a" * 12, "a" * 9], "a", ["a" * 2])
        self.assertEqual([lot.words() for lot in stocks(prices, wish)], slow_stocks(prices, wish))
        self.assertEqual([lot.words() for lot in stocks(prices, Wish(["a" * 12], "abcdef"))],
                         slow_stocks(prices, Wish(["a" * 12], "abcdef")))
        tree = tree_of_reasons(prices, wish, 10 ** 9)
        self.is_bool(True, is_tree_of_reasons(prices, wish, 10 ** 9, tree))
        self.assertTrue(slow_is_tree(prices, wish, 10 ** 9, tree))
        prices = {word: 1 for word in ("a", "b", "ab", "ba", "aab", "abab", "bab", "abb")}
        wish = Wish(["abab", "aab", "bab", "ba"], "ab", ["bb", "bbb"])
        self.assertEqual([lot.words() for lot in stocks(prices, wish)], slow_stocks(prices, wish))

    def test_eight_words_of_twelve_letters(self):
        rng = random.Random(122)
        prices = {word: len(word) for word in ["".join(rng.choice("ab") for _ in range(12)) for _ in range(8)]}
        wish = Wish([], "abcdef", [])
        self.assertEqual(stocks(prices, wish), [Lot()])
        one = max(prices)
        self.is_bool(True, is_tree_of_reasons(prices, Wish([one], "ab"), 99, tree_of_reasons(prices, Wish([one], "ab"), 99)))


class Reasons(Case):
    def test_each_kind(self):
        self.assertEqual(reason(PRICES, WISH, Lot(["b"])), ("cut", "ab", [0]))
        self.assertEqual(reason(prices=PRICES, wish=Wish([], "", ["ab"]), lot=Lot(["a", "b"])),
                         ("plan", "ab", [(0, "a", 1), (1, "b", 2)]))
        self.assertEqual(reason(PRICES, Wish([], "b"), Lot(["ab"])), ("stretch", "ab", "b", "a", [0]))
        self.assertIsNone(reason(PRICES, WISH, Lot(["a", "b"])))
        self.assertIsNone(reason(PRICES, Wish(), Lot()))

    def test_words_without_a_price(self):
        self.refuses(InvalidWords, {"position": 1}, reason, PRICES, WISH, Lot(["a", "c"]))
        self.refuses(InvalidWords, {"position": 0}, reason, {"ab": 1}, WISH, Lot(["ab", "b"]))
        self.refuses(InvalidWords, {"position": 0}, reason, NINE, WISH, Lot(["ab"]))
        self.too_many("words", 8, reason, NINE, WISH, Lot(["aa"]))

    def test_trees(self):
        good = ("word", "a", ("dear",), ("word", "ab", ("dear",), ("cut", "ab", [0])))
        self.is_bool(True, is_tree_of_reasons(PRICES, WISH, 1, good))
        self.is_bool(True, is_tree_of_reasons(prices=PRICES, wish=WISH, number=1, value=good))
        self.is_bool(False, is_tree_of_reasons(PRICES, WISH, 2, good))
        self.is_bool(False, is_tree_of_reasons(PRICES, WISH, 1, ("dear",)))
        self.is_bool(True, is_tree_of_reasons(PRICES, Wish(["f"]), 99, ("cut", "f", (0,))))
        self.is_bool(False, is_tree_of_reasons(PRICES, Wish(["f"]), 99, ["cut", "f", [0]]))
        self.is_bool(False, is_tree_of_reasons(PRICES, WISH, 99, None))
        # The words on the way must be new ones, with a price.
        for word in ("a", "c"):
            self.is_bool(False, is_tree_of_reasons(PRICES, WISH, 1, ("word", word, ("word", "a", *good[2:]), good)))

    def test_a_reason_holds_of_all_lots_there(self):
        # A cut takes all words that are not left, a plan the taken words alone.
        wish = Wish(["ab"], "", ["a"])
        cut, plan = ("cut", "ab", [0]), ("plan", "a", [(0, "a", 1)])
        self.is_bool(False, is_tree_of_reasons(PRICES, wish, 9, cut))
        self.is_bool(False, is_tree_of_reasons(PRICES, wish, 9, plan))
        self.is_bool(True, is_tree_of_reasons(PRICES, wish, 1, ("word", "a", plan, ("word", "ab", ("dear",), cut))))
        self.is_bool(True, is_tree_of_reasons({"a": 1, "b": 1}, wish, 9, ("word", "a", plan, cut)))
        stretch = ("stretch", "ab", "b", "a", [0])
        self.is_bool(False, is_tree_of_reasons({"a": 1, "ab": 1}, WISH, 9, stretch))
        whole = ("word", "ab", ("word", "a", ("dear",), stretch), ("word", "a", ("cut", "ab", [0, 1]), ("cut", "ab", [0])))
        self.is_bool(True, is_tree_of_reasons({"a": 1, "ab": 1}, WISH, 1, whole))

    def test_only_what_the_wish_wants_is_a_reason(self):
        free, wish = {"a": 0, "b": 0, "ab": 0}, Wish(["ab"], "b", ["ab"])
        taken = lambda last: ("word", "a", ("word", "b", ("word", "ab", last, last), last), last)
        for reasons in ([("plan", "a", [(0, "a", 1)]), ("plan", "b", [(0, "b", 1)]), ("plan", "ab", [(0, "ab", 2)])],
                        [("cut", "f", [0]), ("cut", "ca", [0]), ("cut", "ba", [0])]):
            for told in reasons:
                tree = ("word", "ab", told, told)
                self.is_bool(slow_is_tree(free, wish, 9, tree), is_tree_of_reasons(free, wish, 9, tree))
                self.is_bool(slow_is_tree(free, wish, 9, taken(told)), is_tree_of_reasons(free, wish, 9, taken(told)))
        # The letter of a stretch is one of the wish.
        for letter, stretch, good in (("b", "a", True), ("a", "b", False)):
            told = ("stretch", "ab", letter, stretch, [0])
            tree = ("word", "ab", ("word", "a", ("dear",), ("word", "b", ("dear",), told)), ("cut", "ab", [0, 1]))
            prices = {"a": 2, "b": 2, "ab": 1}
            self.is_bool(good and slow_is_tree(prices, wish, 1, tree), is_tree_of_reasons(prices, wish, 1, tree))
        # No word is taken, or left, twice.
        twice = ("word", "a", ("word", "a", ("dear",), ("dear",)), ("word", "ab", ("dear",), ("cut", "ab", [0])))
        self.is_bool(False, is_tree_of_reasons(PRICES, WISH, 1, twice))
        left = ("word", "a", ("dear",), ("word", "a", ("dear",), ("word", "ab", ("dear",), ("cut", "ab", [0]))))
        self.is_bool(False, is_tree_of_reasons(PRICES, WISH, 1, left))

    def test_trees_that_are_otherwise(self):
        prices, wish = {"a": 1, "ab": 1, "b": 5}, Wish(["ab"], "b", ["aab"])
        whole = ("word", "ab", ("word", "a", ("dear",), ("stretch", "ab", "b", "a", [0])),
                 ("word", "b", ("dear",), ("cut", "ab", [0, 1])))
        free = {"a": 0, "b": 0}
        plan = ("word", "a", ("word", "b", ("plan", "aab", [(0, "a", 1), (1, "a", 2), (2, "b", 3)]), ("cut", "ab", [0, 1])),
                ("cut", "ab", [0]))
        for told, number, tree in ((prices, 1, whole), (free, 9, plan)):
            self.assertTrue(slow_is_tree(told, wish, number, tree))
            self.is_bool(True, is_tree_of_reasons(told, wish, number, tree))
            for value in otherwise(tree):
                self.is_bool(slow_is_tree(told, wish, number, value), is_tree_of_reasons(told, wish, number, value))

    def test_errors_in_sequence(self):
        calls = [(stocks, (WISH,)), (is_stock, (WISH, None)), (cheapest_stock, (WISH,)), (price_of_stock, (WISH,)),
                 (reason, (WISH, Lot(["f"]))), (tree_of_reasons, (WISH, None)), (is_tree_of_reasons, (WISH, None, None))]
        for call, more in calls:
            for value in WRONG_PRICES:
                self.refuses(InvalidPrices, {"value": value}, call, value, *more)
            self.refuses(InvalidPrices, {}, call, {**NINE, "dd": -1}, *more)
        for call, more in calls[:4]:
            self.too_many("words", 8, call, NINE, *more)
            call({word: 1 for word in list(NINE)[:8]}, *more)
        for call, more in ((tree_of_reasons, ()), (is_tree_of_reasons, (None,))):
            for value in wrong_values() + [-1, True, "0"]:
                if type(value) is not int or value < 0:
                    self.refuses(InvalidNumber, {"value": value}, call, NINE, WISH, value, *more)
            self.too_many("words", 8, call, NINE, WISH, 0, *more)

    def test_the_order_of_the_keys_and_what_is_passed(self):
        prices = dict(reversed(list(PRICES.items())))
        for call, more in ((stocks, ()), (cheapest_stock, ()), (tree_of_reasons, (2,))):
            self.assertEqual(repr(call(prices, WISH, *more)), repr(call(PRICES, WISH, *more)))
        self.assertEqual(list(prices), list(reversed(list(PRICES))))


if __name__ == "__main__":
    unittest.main()
