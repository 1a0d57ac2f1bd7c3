"""Point [43] and netkeep/twins.py: twins, partings, and where answers are unlike."""

import random
import unittest

from netkeep.answers import answer, counts, pairs
from netkeep.errors import InvalidCut, InvalidTelling, InvalidWord, OtherNodes, Settled
from netkeep.lots import Lot, kept_of
from netkeep.plans import cut, greatest_cut, is_cut
from netkeep.store import Store
from netkeep.twins import first_apart, is_parting, twins, unlike_words
from support import Case, Odd, Same, otherwise, slow_settles, some_store, some_words, subsets, wrong_values

LOT = Lot(["bc", "ab"])
WRONG_WORDS = wrong_values() + ["aaaaaaaaaaaaa", "g", "aB", LOT]
WRONG_TELLINGS = ["", "Many", None, True, ["many"], Odd(), Same(), 0]


class Twins(Case):
    def test_ordinary(self):
        plain, crossed = twins(LOT, "abc")
        self.assertEqual(plain, Store(8, [(0, "a", 2), (1, "a", 3), (2, "b", 4), (3, "b", 5), (4, "c", 6), (5, "c", 7)]))
        self.assertEqual(crossed, Store(8, [(0, "a", 3), (1, "a", 2), (2, "b", 5), (3, "b", 4), (4, "c", 7), (5, "c", 6)]))
        self.assertIs(type(twins(lot=LOT, word="abc", cut=None)), tuple)
        self.assertEqual(twins(lot=LOT, word="abc", cut=[0, 2]), (plain, crossed))
        self.assertEqual(twins(LOT, "abc", (0, 2)), (plain, crossed))

    def test_only_letters_at_the_edge_of_the_cut_are_crossed(self):
        plain, crossed = twins(Lot(), "abc", [0, 1])
        self.assertEqual(crossed, Store(8, [(0, "a", 2), (1, "a", 3), (2, "b", 5), (3, "b", 4), (4, "c", 6), (5, "c", 7)]))
        self.assertEqual(twins(Lot(), "abc")[1].ties()[:2], [(0, "a", 3), (1, "a", 2)])
        self.assertEqual(plain, twins(Lot(), "abc")[0])

    def test_settled_ahead_of_a_wrong_cut(self):
        lot = LOT + "b"
        for value in [None, [0, 2], [0]] + wrong_values():
            self.refuses(Settled, {"value": "abc"}, twins, lot, "abc", value)
        for value in WRONG_WORDS:
            self.refuses(InvalidWord, {"value": value}, twins, LOT, value, 0)
        with self.assertRaises(RuntimeError):
            twins(lot, "abc")

    def test_wrong_cuts(self):
        for value in wrong_values() + [[0], [0, 1], [2, 0], [0, 2, 2], [0, 2, 3], [0, 1, 2], [False, 2], "02", {0: 0, 2: 0}]:
            if value is not None:
                self.refuses(InvalidCut, {"value": value}, twins, LOT, "abc", value)

    def test_fact_for_all_cuts(self):
        rng = random.Random(91)
        for _ in range(120):
            words = some_words(rng, rng.randint(0, 4), "ab", 3)
            word = some_words(rng, 1, "ab", 5)[0]
            lot = Lot(words)
            if slow_settles(words, word):
                self.refuses(Settled, {"value": word}, twins, lot, word)
                continue
            self.assertEqual(twins(lot, word), twins(lot, word, cut(lot, word)))
            for some in subsets(range(len(word))):
                if is_cut(lot, word, some):
                    self.look_at(lot, word, twins(lot, word, some))

    def look_at(self, lot, word, told):
        plain, crossed = told
        self.assertEqual((plain.nodes, crossed.nodes), (2 * len(word) + 2,) * 2)
        pair = (0, 2 * len(word))
        self.assertIn(pair, pairs(plain, word))
        self.assertNotIn(pair, pairs(crossed, word))
        for telling in ("whether", "many"):
            self.assertEqual(kept_of(plain, lot, telling), kept_of(crossed, lot, telling))
            self.is_bool(True, is_parting(lot, word, told, telling))
            self.is_bool(True, is_parting(lot, word, told[::-1], telling))
            self.assertEqual(unlike_words(lot, plain, crossed, telling), [])
            self.assertIsNotNone(first_apart(plain, crossed, word, telling))

    def test_twelve_letters(self):
        word = "abcdefabcdef"
        lot = Lot(["abcdef", "bcdefa", "cdefab", "defabc", "efabcd", "fabcde", "cdefabcdef"])
        self.assertFalse(slow_settles(lot.words()[1:], word))
        for some in (cut(lot - "abcdef", word), greatest_cut(lot - "abcdef", word)):
            self.look_at(lot - "abcdef", word, twins(lot - "abcdef", word, some))
        self.look_at(Lot(), word, twins(Lot(), word))


class Partings(Case):
    def test_ordinary(self):
        told = twins(LOT, "abc")
        self.is_bool(True, is_parting(lot=LOT, word="abc", value=told, telling="many"))
        self.is_bool(False, is_parting(LOT + "b", "abc", told, "many"))
        self.is_bool(False, is_parting(LOT, "ab", told, "many"))
        self.is_bool(False, is_parting(LOT, "abc", (told[0], told[0]), "whether"))
        self.is_bool(False, is_parting(LOT, "abc", list(told), "whether"))
        self.is_bool(False, is_parting(LOT, "abc", (told[0], told[1].beside(Store(1))), "whether"))
        self.is_bool(True, is_parting(LOT, "abc", (told[0].beside(Store(1)), told[1].beside(Store(1))), "whether"))

    def test_unlike_in_many_alone(self):
        one = Store(4, [(0, "a", 1), (1, "b", 3), (0, "a", 2), (2, "b", 3)])
        other = one - (0, "a", 2)
        self.is_bool(True, is_parting(Lot(["b"]), "ab", (one, other), "many"))
        self.is_bool(False, is_parting(Lot(["b"]), "ab", (one, other), "whether"))
        self.is_bool(False, is_parting(Lot(["a"]), "ab", (one, other), "many"))
        # Alike in "whether" and unlike in "many" are the kept answers here.
        both = Lot(["ab"])
        self.is_bool(True, is_parting(both, "a", (one, other), "whether"))
        self.is_bool(False, is_parting(both, "a", (one, other), "many"))

    def test_values_that_are_otherwise(self):
        told = twins(LOT, "abc")
        for telling in ("whether", "many"):
            for value in otherwise(told):
                self.is_bool(False, is_parting(LOT, "abc", value, telling))

    def test_errors_in_sequence(self):
        for value in WRONG_WORDS:
            self.refuses(InvalidWord, {"value": value}, is_parting, LOT, value, None, None)
        for value in WRONG_TELLINGS:
            self.refuses(InvalidTelling, {"value": value}, is_parting, LOT, "abc", None, value)


class Apart(Case):
    one = Store(3, [(0, "a", 1), (1, "b", 2), (0, "a", 0), (0, "b", 2)])
    other = Store(3, [(0, "a", 1), (1, "b", 2)])

    def test_ordinary(self):
        self.assertEqual(first_apart(self.one, self.other, "ab", "many"), (0, 2))
        self.assertIsNone(first_apart(self.one, self.other, "ab", "whether"))
        self.assertEqual(first_apart(one=self.one, other=self.other, word="a", telling="whether"), (0, 0))
        self.assertEqual(first_apart(self.other, self.one, "b", "whether"), (0, 2))
        self.assertEqual(unlike_words(Lot(["ab", "b", "a", "c"]), self.one, self.other, "whether"), ["a", "b"])
        self.assertEqual(unlike_words(lot=Lot(["ab", "b", "a", "c"]), one=self.one, other=self.other, telling="many"),
                         ["a", "b", "ab"])
        self.assertEqual(unlike_words(Lot(), self.one, self.other, "many"), [])

    def test_against_all_pairs(self):
        rng = random.Random(92)
        for _ in range(150):
            nodes = rng.randint(1, 4)
            one, other = some_store(rng, nodes, rng.randint(0, 8), "ab"), some_store(rng, nodes, rng.randint(0, 8), "ab")
            word = some_words(rng, 1, "ab", 3)[0]
            every = [(x, y) for x in range(nodes) for y in range(nodes)]
            many = [(x, y) for x, y in every if counts(one, word)[x][y] != counts(other, word)[x][y]]
            whether = [pair for pair in every if (pair in pairs(one, word)) != (pair in pairs(other, word))]
            self.assertEqual(first_apart(one, other, word, "many"), (many + [None])[0])
            self.assertEqual(first_apart(one, other, word, "whether"), (whether + [None])[0])
            lot = Lot(some_words(rng, rng.randint(0, 6), "ab", 3))
            for telling in ("whether", "many"):
                self.assertEqual(unlike_words(lot, one, other, telling), [
                    told for told in lot if answer(one, told, telling) != answer(other, told, telling)])

    def test_errors_in_sequence(self):
        more = Store(4)
        for value in WRONG_WORDS:
            self.refuses(InvalidWord, {"value": value}, first_apart, self.one, more, value, None)
        for value in WRONG_TELLINGS:
            self.refuses(InvalidTelling, {"value": value}, first_apart, self.one, more, "a", value)
            self.refuses(InvalidTelling, {"value": value}, unlike_words, LOT, self.one, more, value)
        for call, told in ((first_apart, (self.one, more, "a", "many")), (unlike_words, (LOT, self.one, more, "many")),
                           (unlike_words, (Lot(), self.one, more, "whether"))):
            with self.assertRaises(OtherNodes) as caught:
                call(*told)
            self.assertEqual((caught.exception.one, caught.exception.other), (3, 4))


if __name__ == "__main__":
    unittest.main()
