"""Point [42] and netkeep/plans.py: bridges, steps, plans and cuts."""

import itertools
import random
import unittest

from netkeep.errors import InvalidPlace, InvalidWord
from netkeep.lots import Lot
from netkeep.plans import (
    bridges, classes, cut, greatest_cut, is_cut, is_plan, is_settled, plan, steps_at,
)
from support import (
    Case, Odd, all_words, otherwise, slow_bridges, slow_is_cut, slow_is_plan, slow_settles, some_words, subsets,
    wrong_values,
)

LOT = Lot(["bc", "b", "ab"])
WRONG_WORDS = wrong_values() + ["aaaaaaaaaaaaa", "g", "aB", LOT, ["a"]]
LONG = "abcdefabcdef"


class Bridges(Case):
    def test_bridges(self):
        self.assertEqual(bridges(LOT, "abc"), [(0, 2, "ab"), (1, 2, "b"), (1, 3, "bc")])
        self.assertEqual(bridges(lot=Lot(["a", "aa"]), word="aaa"),
                         [(0, 1, "a"), (0, 2, "aa"), (1, 2, "a"), (1, 3, "aa"), (2, 3, "a")])
        self.assertEqual(bridges(Lot(), LONG), [])
        self.assertEqual(bridges(Lot(["abc"]), "ab"), [])

    def test_classes(self):
        self.assertEqual(classes(LOT, "abc"), [[0, 1, 2, 3]])
        self.assertEqual(classes(lot=LOT - "b", word="abc"), [[0, 2], [1, 3]])
        self.assertEqual(classes(Lot(), "f"), [[0], [1]])
        self.assertEqual(classes(Lot(), LONG), [[place] for place in range(13)])

    def test_steps_at(self):
        self.assertEqual(steps_at(LOT, "abc", 1), [(1, "b", 2), (1, "bc", 3)])
        self.assertEqual(steps_at(lot=LOT, word="abc", place=2), [(2, "ab", 0), (2, "b", 1)])
        self.assertEqual(steps_at(Lot(["a", "aa"]), "aaa", 1), [(1, "a", 0), (1, "a", 2), (1, "aa", 3)])
        self.assertEqual(steps_at(Lot(["a"]), "b", 1), [])

    def test_wrong_places(self):
        for value in wrong_values() + [4, -1, True, False, "0", [0], LOT]:
            self.refuses(InvalidPlace, {"value": value}, steps_at, LOT, "abc", value)
            self.refuses(InvalidPlace, {"value": value}, steps_at, Lot(), "abc", value)
        for value in WRONG_WORDS:
            self.refuses(InvalidWord, {"value": value}, steps_at, LOT, value, None)
        self.assertEqual(steps_at(LOT, "abc", 3), [(3, "bc", 1)])

    def test_wrong_words(self):
        for value in WRONG_WORDS:
            for call in (bridges, classes, is_settled, plan, cut, greatest_cut):
                self.refuses(InvalidWord, {"value": value}, call, LOT, value)
            for call in (is_plan, is_cut):
                self.refuses(InvalidWord, {"value": value}, call, LOT, value, None)


class Plans(Case):
    def test_ordinary(self):
        self.assertEqual(plan(LOT, "abc"), [(0, "ab", 2), (2, "b", 1), (1, "bc", 3)])
        self.is_bool(True, is_settled(LOT, "abc"))
        self.is_bool(False, is_settled(lot=LOT - "b", word="abc"))
        self.assertIsNone(plan(lot=LOT - "b", word="abc"))
        self.assertIsNone(cut(LOT, "abc"))
        self.assertIsNone(greatest_cut(LOT, "abc"))
        self.assertEqual(cut(lot=LOT - "b", word="abc"), [0, 2])
        self.assertEqual(greatest_cut(lot=LOT - "b", word="abc"), [0, 2])
        self.assertEqual((cut(Lot(), "abc"), greatest_cut(Lot(), "abc")), ([0], [0, 1, 2]))
        self.assertEqual(plan(Lot(["f"]), "f"), [(0, "f", 1)])

    def test_the_fewest_steps_come_first(self):
        self.assertEqual(plan(Lot(["a", "aaa"]), "aaaa"), [(0, "a", 1), (1, "aaa", 4)])
        self.assertEqual(plan(Lot(["a", "b", "ab"]), "ab"), [(0, "ab", 2)])

    def test_words_are_compared_within_as_python_does(self):
        # Sorted as words are, "b" would come ahead of "aab".
        self.assertEqual(steps_at(Lot(["b", "aab"]), "aabb", 3), [(3, "aab", 0), (3, "b", 2), (3, "b", 4)])
        self.assertEqual(steps_at(Lot(["ba", "a"]), "aba", 1), [(1, "a", 0), (1, "ba", 3)])

    def test_twelve_letters_and_eight_words(self):
        lot = Lot(["abcdef", "bcdefa", "cdefab", "defabc", "efabcd", "fabcde", "ab", "cd"])
        self.assertEqual(plan(lot, LONG), [(0, "abcdef", 6), (6, "abcdef", 12)])
        lot = Lot(["a" * 12, "aa", "aaa", "aaaa", "aaaaa", "a", "aaaaaa", "aaaaaaa"])
        self.assertEqual(plan(lot, "a" * 12), [(0, "a" * 12, 12)])
        self.assertEqual(plan(lot - "a" * 12, "a" * 12)[0], (0, "aaaaa", 5))
        self.assertEqual(len(plan(Lot(["a"]), "a" * 12)), 12)
        self.assertEqual(plan(Lot(["aaaaa", "aaaaaaa"]), "a" * 12), [(0, "aaaaa", 5), (5, "aaaaaaa", 12)])
        self.assertIsNone(plan(Lot(["a" * 7, "a" * 11]), "a" * 12))
        self.assertEqual(cut(Lot(["a" * 7, "a" * 11]), "a" * 12), [0, 4, 7, 11])

    def test_against_all_lists(self):
        rng = random.Random(71)
        for _ in range(250):
            words = some_words(rng, rng.randint(0, 6), "ab", 4)
            word = some_words(rng, 1, "ab", 5)[0]
            self.look_at(Lot(words), words, word)
        for _ in range(60):
            words = some_words(rng, rng.randint(0, 8), "abc", 5)
            word = some_words(rng, 1, "abc", 12)[0]
            self.look_at(Lot(words), words, word)

    def look_at(self, lot, words, word):
        self.assertEqual(bridges(lot, word), slow_bridges(words, word))
        settled = slow_settles(words, word)
        self.is_bool(settled, is_settled(lot, word))
        steps = self.slow_steps(words, word)
        for place in range(len(word) + 1):
            self.assertEqual(steps_at(lot, word, place), [step for step in steps if step[0] == place])
        told, less, more = plan(lot, word), cut(lot, word), greatest_cut(lot, word)
        self.assertEqual((told is None, less is None, more is None), (not settled, settled, settled))
        self.is_bool(settled, is_plan(lot, word, told))
        self.is_bool(not settled, is_cut(lot, word, less))
        self.assertEqual(told, self.slow_plan(steps, word))
        self.look_at_cuts(lot, words, word)

    def look_at_cuts(self, lot, words, word):
        if len(word) > 6:
            return
        cuts = [some for some in subsets(range(len(word))) if slow_is_cut(words, word, some)]
        least, most = min(cuts, key=len, default=None), max(cuts, key=len, default=None)
        self.assertEqual((cut(lot, word), greatest_cut(lot, word)), (least, most))
        for some in subsets(range(len(word) + 1)):
            self.is_bool(some in cuts, is_cut(lot, word, some))
            self.is_bool(some in cuts, is_cut(lot, word, tuple(some)))
        parted = classes(lot, word)
        self.assertEqual(sorted(place for some in parted for place in some), list(range(len(word) + 1)))
        self.assertEqual(parted, sorted(parted))
        for one, other in itertools.combinations(range(len(word) + 1), 2):
            together = any(one in some and other in some for some in parted)
            # Two places are joined exactly if the word between them is settled, places outside being used, too.
            self.assertEqual(together, not any((one in some) != (other in some) for some in subsets(
                range(len(word) + 1)) if all((i in some) == (j in some) for i, j, _ in slow_bridges(words, word))))

    def slow_steps(self, words, word):
        forth = [(i, told, j) for i, j, told in slow_bridges(words, word)]
        return sorted(forth + [(j, told, i) for i, told, j in forth])

    def slow_plan(self, steps, word):
        """The least list with the fewest steps: all lists that come to a place first, shorter ones first."""
        layer, seen = [[]], {0}
        while layer:
            ended = [some for some in layer if some and some[-1][2] == len(word)]
            if ended:
                return min(ended)
            ends = {}
            for some in layer:
                place = some[-1][2] if some else 0
                for step in steps:
                    if step[0] == place and step[2] not in seen:
                        ends.setdefault(step[2], []).append(some + [step])
            seen |= set(ends)
            layer = [min(lists) for lists in ends.values()]
        return None


class Papers(Case):
    good = [(0, "ab", 2), (2, "b", 1), (1, "bc", 3)]

    def test_plans(self):
        self.is_bool(True, is_plan(LOT, "abc", self.good))
        self.is_bool(True, is_plan(lot=LOT, word="abc", value=tuple(self.good)))
        longer = self.good[:1] + [(2, "ab", 0), (0, "ab", 2)] + self.good[1:]
        self.is_bool(True, is_plan(LOT, "abc", longer))
        self.is_bool(True, is_plan(LOT, "abc", self.good + [(3, "bc", 1), (1, "bc", 3)]))
        self.is_bool(False, is_plan(LOT - "b", "abc", self.good))
        self.is_bool(False, is_plan(LOT, "abcc", self.good))
        self.is_bool(False, is_plan(LOT, "abc", self.good[:2]))
        self.is_bool(False, is_plan(LOT, "abc", [list(step) for step in self.good]))
        self.is_bool(False, is_plan(LOT, "abc", [(0, "ab", 2), (2, "ab", 0)]))
        self.is_bool(False, is_plan(Lot(["a"]), "a", [(False, "a", 1)]))
        self.is_bool(False, is_plan(Lot(["a"]), "a", [(0, "a", True)]))

    def test_cuts(self):
        lot = LOT - "b"
        self.is_bool(True, is_cut(lot, "abc", [0, 2]))
        self.is_bool(True, is_cut(lot=lot, word="abc", value=(0, 2)))
        self.is_bool(False, is_cut(LOT, "abc", [0, 2]))
        for value in ([2, 0], [0, 0, 2], [0], [0, 2, 3], [0, 1, 2], [False, 2], [], {0: 1, 2: 1}, (0, "2")):
            self.is_bool(False, is_cut(lot, "abc", value))
        self.is_bool(False, is_cut(Lot(), "a", [0, 1]))
        self.is_bool(True, is_cut(Lot(), "a", [0]))

    def test_papers_that_are_otherwise(self):
        for value in otherwise(self.good):
            self.is_bool(slow_is_plan(LOT.words(), "abc", value), is_plan(LOT, "abc", value))
        lot = Lot(["bc", "ab", "cd"])
        for some in ([0, 2, 4], [0, 2]):
            for value in otherwise(some):
                self.is_bool(slow_is_cut(lot.words(), "abcde", value), is_cut(lot, "abcde", value))

    def test_either_a_plan_or_a_cut(self):
        rng = random.Random(72)
        for word in all_words(3, "ab"):
            for words in (some_words(rng, many, "ab", 3) for many in range(9)):
                lot = Lot(words)
                for some in subsets(range(len(word) + 1)):
                    self.assertFalse(is_settled(lot, word) and is_cut(lot, word, some))

    def test_what_is_told_is_new(self):
        for call in (plan, bridges, classes):
            call(LOT, "abc").clear()
        classes(LOT, "abc")[0].clear()
        self.assertEqual(plan(LOT, "abc"), self.good)
        self.assertEqual(classes(LOT, "abc"), [[0, 1, 2, 3]])


if __name__ == "__main__":
    unittest.main()
