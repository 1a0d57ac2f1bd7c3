"""Point [2] and netkeep/words.py: integers, letters, words and their sequence."""

import itertools
import unittest

from netkeep.errors import InvalidWords
from netkeep.words import in_sequence, is_count, is_integer, is_letter, is_word
from support import Case, Odd, wrong_values


class Kinds(Case):
    def test_integers(self):
        for value in (0, 1, -1, 40, 10 ** 29, -10 ** 29):
            self.is_bool(True, is_integer(value))
        for value in (True, False, None, "1", "", [1], (1,), {1: 1}, {1}, b"1", Odd(), int):
            self.is_bool(False, is_integer(value))

    def test_counts(self):
        for value in (0, 1, 10 ** 29):
            self.is_bool(True, is_count(value))
        for value in (-1, -10 ** 29, True, False, None, "0", [], [0], Odd()):
            self.is_bool(False, is_count(value))

    def test_letters(self):
        for value in "abcdef":
            self.is_bool(True, is_letter(value))
        for value in ("", "g", "A", "F", "ab", "abcdef", " ", "a ", "`", b"a", 0, 97, None, True, ["a"], ("a",), Odd()):
            self.is_bool(False, is_letter(value))

    def test_words(self):
        for value in ("a", "f", "abcdef", "aaaaaaaaaaaa", "fedcbafedcba"):
            self.is_bool(True, is_word(value))
        for value in ("", "g", "A", "aB", "a b", " a", "a\n", "aaaaaaaaaaaaa", "abg", b"ab", ["a", "b"], ("a",), 1, None,
                      True, {"a": 1}, Odd()):
            self.is_bool(False, is_word(value))

    def test_by_name(self):
        for judge in (is_integer, is_count, is_letter, is_word):
            self.is_bool(False, judge(value=None))


class InSequence(Case):
    def test_length_first_then_letters(self):
        self.assertEqual(in_sequence(["b", "ab", "a", "aaa", "f", "ba"]), ["a", "b", "f", "ab", "ba", "aaa"])
        self.assertEqual(in_sequence(["ba", "c"]), ["c", "ba"])

    def test_words_twice_stay_twice(self):
        self.assertEqual(in_sequence(["b", "a", "b", "ab", "a"]), ["a", "a", "b", "b", "ab"])

    def test_none_and_one(self):
        self.assertEqual(in_sequence([]), [])
        self.assertEqual(in_sequence(()), [])
        self.assertEqual(in_sequence(words=["aaaaaaaaaaaa"]), ["aaaaaaaaaaaa"])

    def test_any_sequence_of_the_same_words(self):
        words = ["a", "f", "ab", "fa", "abc"]
        for some in itertools.permutations(words):
            self.assertEqual(in_sequence(list(some)), words)

    def test_a_tuple_is_a_list_and_the_result_is_a_new_list(self):
        passed = ["b", "a"]
        got = in_sequence(passed)
        self.assertEqual(passed, ["b", "a"])
        self.assertIsNot(in_sequence(got), got)
        self.assertEqual(in_sequence(("b", "a")), ["a", "b"])
        self.assertIs(type(in_sequence(("b", "a"))), list)

    def test_no_list(self):
        for value in (None, True, 0, "", "abc", {}, {"a": 1}, {"a"}, b"a", Odd(), iter(["a"])):
            self.refuses(InvalidWords, {"position": None}, in_sequence, value)

    def test_first_element_that_is_no_word(self):
        for value in wrong_values():
            self.refuses(InvalidWords, {"position": 0}, in_sequence, [value])
            self.refuses(InvalidWords, {"position": 2}, in_sequence, ["b", "a", value, "", "g"])
            self.refuses(InvalidWords, {"position": 1}, in_sequence, ("b", value))
        self.refuses(InvalidWords, {"position": 1}, in_sequence, ["a", "aaaaaaaaaaaaa"])


if __name__ == "__main__":
    unittest.main()
