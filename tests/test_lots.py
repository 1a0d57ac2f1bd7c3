"""Point [41] and netkeep/lots.py: lots of words and kept answers."""

import unittest

from netkeep.answers import answer
from netkeep.errors import InvalidLot, InvalidNodes, InvalidTelling, InvalidWord, InvalidWords, UnknownWord
from netkeep.lots import Lot, is_kept, kept_of
from netkeep.store import Store
from support import Case, Odd, wrong_values

EIGHT = ["a", "b", "c", "d", "e", "f", "aa", "abcdefabcdef"]
WRONG_WORDS = wrong_values() + ["aaaaaaaaaaaaa", "g", "aB"]
PATH = Store(4, [(0, "a", 1), (1, "b", 2), (2, "c", 3)])


class Made(Case):
    def test_parts(self):
        lot = Lot(["bc", "b", "ab"])
        self.assertEqual(lot.words(), ["b", "ab", "bc"])
        self.assertEqual(lot.letters(), "abc")
        self.assertEqual(len(lot), 3)
        self.assertEqual(repr(lot), "Lot(['b', 'ab', 'bc'])")
        self.assertEqual(list(lot), ["b", "ab", "bc"])
        self.assertEqual([word for word in lot], ["b", "ab", "bc"])
        self.assertEqual(list(enumerate(lot)), [(0, "b"), (1, "ab"), (2, "bc")])

    def test_none_and_eight_and_nine(self):
        for lot in (Lot(), Lot([]), Lot(()), Lot(words=[])):
            self.assertEqual((lot.words(), lot.letters(), len(lot), list(lot)), ([], "", 0, []))
            self.assertEqual(repr(lot), "Lot([])")
        self.assertEqual(Lot.MOST_WORDS, 8)
        self.assertEqual(Lot(EIGHT[::-1]).words(), EIGHT)
        self.too_many("words", 8, Lot, EIGHT + ["ab"])
        self.refuses(InvalidWords, {"position": 9}, Lot, EIGHT + ["ab", "a"])
        self.refuses(InvalidWords, {"position": 8}, Lot, EIGHT + [None])

    def test_letters_rise(self):
        self.assertEqual(Lot(["fb", "bd", "d"]).letters(), "bdf")

    def test_wrong_words(self):
        for value in (None, True, 0, "ab", "", {}, {"a": 1}, {"a"}, b"a", Odd(), Lot(["a"]), iter([])):
            self.refuses(InvalidWords, {"position": None}, Lot, value)
        for value in WRONG_WORDS:
            self.refuses(InvalidWords, {"position": 0}, Lot, [value])
            self.refuses(InvalidWords, {"position": 2}, Lot, ("b", "a", value, value))
        self.refuses(InvalidWords, {"position": 2}, Lot, ["a", "ab", "a", None])

    def test_copies_and_new_lists(self):
        words = ["b", "a"]
        lot = Lot(words)
        self.assertEqual(words, ["b", "a"])
        words.append("c")
        lot.words().append("d")
        self.assertEqual(lot.words(), ["a", "b"])

    def test_in(self):
        lot = Lot(["b", "ab"])
        self.is_bool(True, "ab" in lot)
        self.is_bool(False, "a" in lot)
        for value in wrong_values():
            self.is_bool(False, value in lot)

    def test_equal(self):
        lot = Lot(["b", "ab"])
        self.assertTrue(lot == Lot(("ab", "b")))
        self.assertFalse(lot != Lot(("ab", "b")))
        for other in (Lot(), Lot(["b"]), Lot(["b", "ab", "c"]), ["b", "ab"], ("b", "ab"), "Lot(['b', 'ab'])", None, 0,
                      {"b": 1, "ab": 1}, Odd()):
            self.assertFalse(lot == other)
            self.assertTrue(lot != other)


class Signs(Case):
    def setUp(self):
        self.lot = Lot(["b", "ab"])

    def tearDown(self):
        self.assertEqual(self.lot.words(), ["b", "ab"])

    def test_more_and_less(self):
        self.assertEqual((self.lot + "a").words(), ["a", "b", "ab"])
        self.assertEqual((self.lot - "b").words(), ["ab"])
        self.assertEqual(self.lot - "b" - "ab", Lot())

    def test_wrong_words(self):
        for value in WRONG_WORDS + ["b", "ab", Lot(["a"]), ["a"]]:
            self.refuses(InvalidWord, {"value": value}, lambda: self.lot + value)
        for value in WRONG_WORDS + ["a", "ba", Lot(["b"]), ["b"]]:
            self.refuses(UnknownWord, {"value": value}, lambda: self.lot - value)
        with self.assertRaises(LookupError):
            self.lot - "c"

    def test_nine_words(self):
        full = Lot(EIGHT)
        self.too_many("words", 8, lambda: full + "ab")
        self.refuses(InvalidWord, {"value": "a"}, lambda: full + "a")
        self.assertEqual(len((full - "a") + "ab"), 8)

    def test_or_and_and(self):
        other = Lot(["c", "ab", "abc"])
        self.assertEqual((self.lot | other).words(), ["b", "c", "ab", "abc"])
        self.assertEqual((self.lot & other).words(), ["ab"])
        self.assertEqual((self.lot | self.lot, self.lot & self.lot), (self.lot, self.lot))
        self.assertEqual((self.lot | Lot(), self.lot & Lot()), (self.lot, Lot()))
        self.too_many("words", 8, lambda: Lot(EIGHT[:6]) | Lot(["ab", "ba", "bb"]))
        self.assertEqual(len(Lot(EIGHT[:6]) | Lot(["ab", "ba", "a"])), 8)
        self.assertEqual(Lot(EIGHT) & Lot(EIGHT), Lot(EIGHT))

    def test_or_and_and_with_no_lot(self):
        for value in wrong_values() + ["a", ["a"], Lot, repr(Lot())]:
            self.refuses(InvalidLot, {"value": value}, lambda: self.lot | value)
            self.refuses(InvalidLot, {"value": value}, lambda: self.lot & value)


class Kept(Case):
    lot = Lot(["bc", "b", "ab"])

    def test_kept_of(self):
        kept = kept_of(PATH, self.lot, "whether")
        self.assertEqual(kept, {"b": [(1, 2)], "ab": [(0, 2)], "bc": [(1, 3)]})
        self.assertEqual(list(kept), ["b", "ab", "bc"])
        many = kept_of(store=PATH, lot=self.lot, telling="many")
        self.assertEqual(list(many), ["b", "ab", "bc"])
        for word in self.lot:
            self.assertEqual(many[word], answer(PATH, word, "many"))
        self.assertEqual(kept_of(PATH, Lot(), "many"), {})
        for value in ("", "Many", None, True, ["many"], Odd()):
            self.refuses(InvalidTelling, {"value": value}, kept_of, PATH, self.lot, value)
            self.refuses(InvalidTelling, {"value": value}, kept_of, PATH, Lot(), value)

    def test_nothing_told_is_shared(self):
        kept = kept_of(Store(2), self.lot, "whether")
        kept["b"].append((0, 0))
        self.assertEqual((kept["ab"], kept["bc"]), ([], []))

    def test_is_kept(self):
        for telling in ("whether", "many"):
            kept = kept_of(PATH, self.lot, telling)
            self.is_bool(True, is_kept(self.lot, 4, kept, telling))
            self.is_bool(False, is_kept(self.lot, 3, kept, telling))
            self.is_bool(True, is_kept(self.lot, 4, {word: kept[word] for word in ("bc", "b", "ab")}, telling))
            self.is_bool(True, is_kept(self.lot, 4, {word: tuple(kept[word]) for word in kept}, telling))
            self.is_bool(False, is_kept(self.lot - "b", 4, kept, telling))
            self.is_bool(False, is_kept(self.lot + "a", 4, kept, telling))
            self.is_bool(False, is_kept(self.lot, 4, {**kept, "a": kept["b"]}, telling))
            self.is_bool(False, is_kept(self.lot, 4, list(kept.items()), telling))
            for value in wrong_values():
                self.is_bool(False, is_kept(self.lot, 4, value, telling))
                if telling == "many" or value not in ([], ()):
                    self.is_bool(False, is_kept(self.lot, 4, {**kept, "b": value}, telling))
                self.is_bool(False, is_kept(Lot(["b"]), 4, {0: kept["b"]}, telling))
            self.is_bool(True, is_kept(Lot(), 4, {}, telling))
        many = kept_of(PATH, self.lot, "many")
        self.is_bool(False, is_kept(self.lot, 4, many, "whether"))
        self.is_bool(False, is_kept(self.lot, 4, kept_of(PATH, self.lot, "whether"), "many"))

    def test_kept_of_no_store(self):
        self.is_bool(True, is_kept(lot=Lot(["a", "aa"]), nodes=2, value={"a": [], "aa": [(0, 1)]}, telling="whether"))
        self.is_bool(True, is_kept(Lot(["a"]), 1, {"a": [[7]]}, "many"))
        self.is_bool(False, is_kept(Lot(["a"]), 1, {"a": [[True]]}, "many"))
        self.is_bool(False, is_kept(Lot(["a"]), 2, {"a": [(0, True)]}, "whether"))
        self.is_bool(False, is_kept(Lot(["a"]), 2, {"a": [(1, 0), (0, 1)]}, "whether"))
        for keys in ([True], [1], [("a",)], [None], ["b"], ["a", "b"]):
            self.is_bool(False, is_kept(Lot(["a"]), 2, {key: [] for key in keys}, "whether"))

    def test_errors_in_sequence(self):
        for value in (0, 41, True, False, None, "4", [4], Odd()):
            self.refuses(InvalidNodes, {"value": value}, is_kept, self.lot, value, None, None)
        for value in ("", "Many", None, True, ["many"], Odd()):
            self.refuses(InvalidTelling, {"value": value}, is_kept, self.lot, 4, None, value)


if __name__ == "__main__":
    unittest.main()
