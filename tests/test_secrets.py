"""Points [51] to [53] and netkeep/secrets.py: what is given away, withholdings, and trees of plans."""

import itertools
import random
import unittest

from netkeep.errors import InvalidNumber, InvalidPrices, InvalidSecrets, InvalidWord
from netkeep.lots import Lot
from netkeep.secrets import (
    cheapest_withholding, gives_away, hidden, is_tree_of_plans, is_withholding, least_withholdings, price_of_hiding,
    tree_of_plans,
)
from support import Case, Odd, as_words, otherwise, slow_is_plan, slow_settles, some_words, wrong_values

LOT = Lot(["ab", "b", "bc"])
WORTH = {"ab": 3, "b": 1, "bc": 2}
EIGHT = Lot(["a", "b", "c", "d", "e", "f", "ab", "bc"])
WRONG_WORDS = wrong_values() + ["aaaaaaaaaaaaa", "g", "aB", LOT]
WRONG_PRICES = wrong_values() + [{"ab": -1}, {"ab": True}, {"ab": None}, {"ab": "1"}, {"a": 1}, {"ab": 1, "a": 1},
                                 {"ab": 1, 0: 1}, {"ab": 1, None: 1}, {("ab",): 1}, {"AB": 1}, [("ab", 1)], LOT]
FIVE = ["abc", "cb", "ca", "cc", "aa"]


def slow_choices(prices):
    """All lists of some of the priced words, shorter ones first, then by their words."""
    words = sorted(prices, key=lambda word: (len(word), word))
    every = [list(some) for many in range(len(words) + 1) for some in itertools.combinations(words, many)]
    return sorted(every, key=lambda some: (len(some), as_words(some)))


def slow_hides(lot, withheld, secrets):
    left = [word for word in lot.words() if word not in withheld]
    return not any(slow_settles(left, secret) for secret in secrets)


def slow_withholdings(lot, prices, secrets):
    return [some for some in slow_choices(prices) if slow_hides(lot, some, secrets)]


def slow_price(prices, words):
    return sum(prices[word] for word in words)


def slow_is_tree(words, prices, secrets, number, value, withheld=(), kept=()):
    """Whether a value is a tree of plans, as the point says it."""
    if type(value) is not tuple or len(value) != 3:
        return False
    position, steps, branches = value
    if type(position) is not int or not 0 <= position < len(secrets):
        return False
    left = [word for word in words if word not in withheld]
    if not slow_is_plan(left, secrets[position], steps) or type(branches) not in (list, tuple):
        return False
    spent = slow_price(prices, withheld)
    wanted = sorted({word for _, word, _ in steps if word in prices and word not in kept
                     and spent + prices[word] <= number}, key=lambda word: (len(word), word))
    for branch in branches:
        if type(branch) is not tuple or len(branch) != 2 or type(branch[0]) is not str:
            return False
    if [word for word, _ in branches] != wanted:
        return False
    return all(slow_is_tree(words, prices, secrets, number, tree, (*withheld, word), (*kept, *wanted[:at]))
               for at, (word, tree) in enumerate(branches))


class Given(Case):
    def test_ordinary(self):
        self.is_bool(True, gives_away(LOT, "abc"))
        self.is_bool(False, gives_away(lot=LOT, secret="abcc"))
        self.is_bool(True, gives_away(LOT, "b"))
        self.is_bool(False, gives_away(Lot(), "b"))
        self.assertEqual(hidden(LOT, ["cb", "abc", "a"]), ["cb", "a"])
        self.assertEqual(hidden(lot=LOT, secrets=()), [])
        self.assertEqual(hidden(LOT, ("c", "b", "a", "ab")), ["c", "a"])
        for value in WRONG_WORDS:
            self.refuses(InvalidWord, {"value": value}, gives_away, LOT, value)

    def test_wrong_secrets(self):
        for value in (None, True, 0, "abc", "", {}, {"a": 1}, LOT, Odd()):
            self.refuses(InvalidSecrets, {"position": None}, hidden, LOT, value)
        for value in WRONG_WORDS:
            self.refuses(InvalidSecrets, {"position": 1}, hidden, LOT, ["abc", value])
            self.refuses(InvalidSecrets, {"position": 5}, hidden, LOT, FIVE + [value])
        self.refuses(InvalidSecrets, {"position": 1}, hidden, LOT, ("abc", "abc"))
        self.too_many("secrets", 4, hidden, LOT, FIVE)
        self.assertEqual(hidden(LOT, FIVE[:4]), FIVE[1:4])


class Withholdings(Case):
    def test_ordinary(self):
        self.assertEqual(cheapest_withholding(LOT, WORTH, ["abc"]), ["b"])
        self.assertEqual(price_of_hiding(lot=LOT, prices=WORTH, secrets=["abc"]), 1)
        self.assertEqual(least_withholdings(LOT, WORTH, ["abc"]), [["b"], ["ab"], ["bc"]])
        self.assertEqual(cheapest_withholding(lot=LOT, prices=WORTH, secrets=("abc", "b", "ab")), ["b", "ab"])
        self.assertEqual(least_withholdings(lot=LOT, prices={"ab": 0}, secrets=["b"]), [])
        self.assertIsNone(cheapest_withholding(LOT, {"ab": 0}, ["b"]))
        self.assertIsNone(price_of_hiding(LOT, {"ab": 0}, ["b"]))
        self.assertEqual(least_withholdings(LOT, WORTH, []), [[]])
        self.assertEqual(cheapest_withholding(LOT, WORTH, ["cb"]), [])
        self.assertEqual(price_of_hiding(LOT, WORTH, []), 0)

    def test_is_withholding(self):
        self.is_bool(True, is_withholding(LOT, WORTH, ["abc"], ["b"]))
        self.is_bool(True, is_withholding(lot=LOT, prices=WORTH, secrets=["abc"], value=("bc", "b")))
        self.is_bool(True, is_withholding(LOT, WORTH, [], []))
        self.is_bool(False, is_withholding(LOT, WORTH, ["abc"], []))
        self.is_bool(False, is_withholding(LOT, WORTH, ["abc"], ["b", "b"]))
        self.is_bool(False, is_withholding(LOT, {"ab": 1}, ["abc"], ["b"]))
        self.is_bool(False, is_withholding(LOT, WORTH, ["abc"], ["b", "c"]))
        self.is_bool(False, is_withholding(LOT, WORTH, ["abc"], "b"))
        self.is_bool(False, is_withholding(LOT, WORTH, ["abc"], {"b": 1}))
        for value in otherwise(["b", "ab"]):
            good = type(value) in (list, tuple) and all(type(word) is str for word in value)
            good = good and len(set(value)) == len(value) and set(value) <= set(WORTH)
            good = good and slow_hides(LOT, value, ["abc"])
            self.is_bool(good, is_withholding(LOT, WORTH, ["abc"], value))

    def test_the_cheapest_one_among_equals(self):
        lot = Lot(["a", "b", "ab", "ba"])
        # Two words for 1 each, or one word for 2: the fewest words.
        self.assertEqual(cheapest_withholding(lot, {"ab": 1, "a": 1, "b": 2}, ["ab"]), ["a", "ab"])
        self.assertEqual(cheapest_withholding(Lot(["a", "b"]), {"a": 1, "b": 1}, ["ab"]), ["a"])
        self.assertEqual(cheapest_withholding(Lot(["aa", "b"]), {"aa": 1, "b": 1}, ["baa"]), ["b"])
        self.assertEqual(cheapest_withholding(Lot(["a", "b"]), {"a": 0, "b": 0}, ["b"]), ["b"])
        self.assertEqual(cheapest_withholding(Lot(["ab", "ba", "bb"]), {"bb": 1, "ba": 0, "ab": 1}, ["bab", "bbab"]),
                         ["ab"])
        great = {"a": 10 ** 29, "b": 10 ** 29 + 1}
        self.assertEqual((cheapest_withholding(lot - "ab", great, ["ab"]), price_of_hiding(lot - "ab", great, ["ab"])),
                         (["a"], 10 ** 29))

    def test_against_trying_all(self):
        rng = random.Random(111)
        for _ in range(250):
            lot, prices, secrets = self.some_case(rng)
            every = slow_withholdings(lot, prices, secrets)
            least = [some for some in every if not any(set(one) < set(some) for one in every)]
            self.assertEqual(least_withholdings(lot, prices, secrets), least)
            best = min(every, key=lambda some: (slow_price(prices, some), len(some), as_words(some)), default=None)
            self.assertEqual(cheapest_withholding(lot, prices, secrets), best)
            price = None if best is None else slow_price(prices, best)
            self.assertEqual(price_of_hiding(lot, prices, secrets), price)
            for some in slow_choices(prices):
                self.is_bool(some in every, is_withholding(lot, prices, secrets, some[::-1]))
            self.look_at_trees(lot, prices, secrets, price)

    def some_case(self, rng):
        words = some_words(rng, rng.randint(1, 6), "ab", 3)
        prices = {word: rng.choice((0, 1, 1, 2, 3, 10 ** 28)) for word in rng.sample(words, rng.randint(1, len(words)))}
        return Lot(words), prices, some_words(rng, rng.randint(0, 4), "ab", 4)

    def look_at_trees(self, lot, prices, secrets, price):
        for number in (0, 1, 2, 3, 5, 10 ** 28, 10 ** 29):
            tree = tree_of_plans(lot, prices, secrets, number)
            self.assertEqual(tree is None, price is not None and price <= number)
            self.is_bool(tree is not None, is_tree_of_plans(lot, prices, secrets, number, tree))
            if tree is not None:
                self.assertTrue(slow_is_tree(lot.words(), prices, secrets, number, tree))
                for other in (0, 1, 2, 3):
                    self.is_bool(slow_is_tree(lot.words(), prices, secrets, other, tree),
                                 is_tree_of_plans(lot, prices, secrets, other, tree))

    def test_eight_and_nine_words(self):
        prices = {word: 1 for word in EIGHT}
        secrets = ["abc", "def", "fed", "aabbc"]
        every = slow_withholdings(EIGHT, prices, secrets)
        self.assertEqual(least_withholdings(EIGHT, prices, secrets),
                         [some for some in every if not any(set(one) < set(some) for one in every)])
        self.assertEqual(cheapest_withholding(EIGHT, prices, secrets), every[0])
        tree = tree_of_plans(EIGHT, prices, secrets, len(every[0]) - 1)
        self.is_bool(True, is_tree_of_plans(EIGHT, prices, secrets, len(every[0]) - 1, tree))
        self.assertTrue(slow_is_tree(EIGHT.words(), prices, secrets, len(every[0]) - 1, tree))
        # Nine words are never all of one lot.
        nine = {**prices, "cd": 1}
        self.refuses(InvalidPrices, {"value": nine}, cheapest_withholding, EIGHT, nine, ["abc"])
        all_of_a = Lot(["a" * many for many in range(1, 9)])
        worth = {word: len(word) for word in all_of_a}
        self.assertEqual(cheapest_withholding(all_of_a, worth, ["a"]), ["a"])
        secrets = ["a" * many for many in (9, 10, 11, 12)]
        price = price_of_hiding(all_of_a, worth, secrets)
        tree = tree_of_plans(all_of_a, worth, secrets, price - 1)
        self.is_bool(True, is_tree_of_plans(all_of_a, worth, secrets, price - 1, tree))
        self.assertTrue(slow_is_tree(all_of_a.words(), worth, secrets, price - 1, tree))
        self.assertIsNone(tree_of_plans(all_of_a, worth, secrets, price))


class Trees(Case):
    bridge = [(0, "ab", 2), (2, "b", 1), (1, "bc", 3)]

    def test_ordinary(self):
        self.is_bool(True, is_tree_of_plans(LOT, WORTH, ["abc"], 0, (0, self.bridge, [])))
        self.is_bool(True, is_tree_of_plans(lot=LOT, prices=WORTH, secrets=["abc"], number=0, value=(0, tuple(self.bridge), ())))
        self.assertEqual(tree_of_plans(lot=LOT, prices=WORTH, secrets=["abc"], number=0), (0, self.bridge, []))
        self.assertIsNone(tree_of_plans(LOT, WORTH, ["abc"], 1))
        self.is_bool(False, is_tree_of_plans(LOT, WORTH, ["abc"], 1, (0, self.bridge, [])))
        self.assertIsNone(tree_of_plans(LOT, WORTH, ["cb"], 0))
        self.assertIsNone(tree_of_plans(LOT, WORTH, [], 0))
        self.is_bool(False, is_tree_of_plans(LOT, WORTH, [], 0, (0, [], [])))

    def test_words_kept_for_good_and_dear_ones(self):
        lot = Lot(["a", "b", "ab"])
        free = {"a": 0, "b": 0, "ab": 5}
        tree = (0, [(0, "a", 1), (1, "b", 2)], [("a", (0, [(0, "ab", 2)], [])), ("b", (0, [(0, "ab", 2)], []))])
        self.is_bool(True, is_tree_of_plans(lot, free, ["ab"], 4, tree))
        self.is_bool(False, is_tree_of_plans(lot, free, ["ab"], 5, tree))
        # In the branch of b the word a is kept for good, so it has no branch there.
        lot = Lot(["a", "b", "ab", "c"])
        deep = (0, [(0, "a", 1), (1, "b", 2)], [("a", (0, [(0, "ab", 2)], [])), ("b", (1, [(0, "a", 1)], []))])
        self.is_bool(True, is_tree_of_plans(lot, free, ["ab", "a"], 4, deep))
        more = (0, deep[1], [deep[2][0], ("b", (1, [(0, "a", 1)], [("a", (0, [(0, "ab", 2)], []))]))])
        self.is_bool(False, is_tree_of_plans(lot, free, ["ab", "a"], 4, more))
        # A word of the plan without a price has no branch.
        self.is_bool(True, is_tree_of_plans(lot, {"b": 9}, ["ab"], 8, (0, [(0, "a", 1), (1, "b", 2)], [])))
        self.is_bool(False, is_tree_of_plans(lot, {"b": 9}, ["ab"], 9, (0, [(0, "a", 1), (1, "b", 2)], [])))

    def test_trees_that_are_otherwise(self):
        lot, prices, secrets = Lot(["a", "b", "ab"]), {"a": 1, "b": 1, "ab": 9}, ["ba", "ab"]
        tree = tree_of_plans(lot, prices, secrets, 2)
        steps = [(0, "a", 1), (1, "b", 2)]
        deep = (1, steps, [("a", (1, [(0, "ab", 2)], [])), ("b", (1, [(0, "ab", 2)], []))])
        # Below, a withheld word is used again, or one that is kept for good has a branch.
        wrong = [(1, steps, [("a", (1, steps, [("b", deep[2][0][1])])), deep[2][1]]),
                 (1, steps, [deep[2][0], ("b", (0, [(0, "b", 1), (1, "a", 2)], [("a", deep[2][0][1])]))])]
        looked = 0
        for good in (tree, deep):
            self.assertTrue(slow_is_tree(lot.words(), prices, secrets, 2, good))
            self.is_bool(True, is_tree_of_plans(lot, prices, secrets, 2, good))
            for value in list(otherwise(good)) + wrong:
                looked += 1
                self.is_bool(slow_is_tree(lot.words(), prices, secrets, 2, value),
                             is_tree_of_plans(lot, prices, secrets, 2, value))
        self.assertGreater(looked, 1000)

    def test_branches_are_sorted_as_words_are(self):
        lot, prices = Lot(["b", "aa", "aab", "baa"]), {"b": 1, "aa": 1}
        steps = [(0, "aa", 2), (2, "b", 3)]
        whole = (0, [(0, "aab", 3)], [])
        good = (0, steps, [("b", whole), ("aa", whole)])
        self.is_bool(True, is_tree_of_plans(lot, prices, ["aab"], 1, good))
        self.is_bool(False, is_tree_of_plans(lot, prices, ["aab"], 1, (0, steps, good[2][::-1])))
        self.is_bool(False, is_tree_of_plans(lot, prices, ["aab"], 1, (0, steps, [list(one) for one in good[2]])))


class Errors(Case):
    calls = [(is_withholding, (None,)), (least_withholdings, ()), (cheapest_withholding, ()), (price_of_hiding, ())]
    trees = [(tree_of_plans, ()), (is_tree_of_plans, (None,))]

    def test_in_the_sequence_of_the_parameters(self):
        for call, more in self.calls + [(call, (None, *more)) for call, more in self.trees]:
            for value in WRONG_PRICES:
                self.refuses(InvalidPrices, {"value": value}, call, LOT, value, None, *more)
            for value in (None, True, 0, "abc", {}, LOT, Odd()):
                self.refuses(InvalidSecrets, {"position": None}, call, LOT, WORTH, value, *more)
            for value in WRONG_WORDS:
                self.refuses(InvalidSecrets, {"position": 5}, call, LOT, WORTH, FIVE + [value], *more)
            self.refuses(InvalidSecrets, {"position": 2}, call, LOT, WORTH, ["a", "b", "a"], *more)
        for call, more in self.calls:
            self.too_many("secrets", 4, call, LOT, WORTH, FIVE, *more)
            call(LOT, WORTH, FIVE[:4], *more)
        for call, more in self.trees:
            for value in wrong_values() + [-1, True, "0"]:
                if type(value) is not int or value < 0:
                    self.refuses(InvalidNumber, {"value": value}, call, LOT, WORTH, FIVE, value, *more)
            self.too_many("secrets", 4, call, LOT, WORTH, FIVE, 0, *more)
            call(LOT, WORTH, FIVE[:4], 10 ** 29, *more)

    def test_no_prices_of_no_words(self):
        self.refuses(InvalidPrices, {}, least_withholdings, LOT, {}, [])
        self.refuses(InvalidPrices, {}, least_withholdings, Lot(), {"a": 1}, [])

    def test_the_order_of_the_keys_and_what_is_passed(self):
        prices = dict(reversed(list(WORTH.items())))
        secrets = ["abc", "b"]
        before = repr((prices, secrets))
        for call in (least_withholdings, cheapest_withholding, price_of_hiding):
            self.assertEqual(repr(call(LOT, prices, secrets)), repr(call(LOT, WORTH, secrets)))
        self.assertEqual(repr(tree_of_plans(LOT, prices, secrets, 0)), repr(tree_of_plans(LOT, WORTH, secrets, 0)))
        self.assertEqual(repr((prices, secrets)), before)
        hidden(LOT, secrets).clear()
        least_withholdings(LOT, prices, secrets)[0].clear()
        self.assertEqual(repr((prices, secrets)), before)


if __name__ == "__main__":
    unittest.main()
