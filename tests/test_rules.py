"""Points [33] and [34], and netkeep/rules.py: what leads to what, and what rules imply."""

import itertools
import random
import unittest

from netkeep.answers import pairs
from netkeep.errors import InvalidRule, InvalidRules, InvalidWord
from netkeep.filled import obeys
from netkeep.rules import (
    against, are_alike, fewest_rules, is_against, is_implied, is_leads_paper, is_parting_store, is_rule, leads,
    leads_paper, needless, parting_store, shortest, words_from,
)
from netkeep.store import Store
from support import (
    Case, Odd, all_walks, all_words, slow_filled, slow_is_trace, some_rules, some_store, wrong_values,
)

TURNS = [("ab", "c"), ("cc", "a")]
SOME = [("ab", "c"), ("cb", "d"), ("abb", "d")]
FIVE = [("a", letter) for letter in "bcdef"]
WRONG_RULES = wrong_values() + [("", "a"), ("abcd", "a"), ("ab", "g"), ("ab", "A"), ("ab", ""), ("ab", "ab"),
                                ("aB", "a"), ["ab", "c"], ("ab", "c", "d"), ("ab",), ("ab", None), (None, "a"),
                                (("a",), "a"), ("ab", True), ("ab", ["c"])]
WRONG_WORDS = wrong_values() + ["aaaaaaaaaaaaa", "g", "aB"]


def slow_leads(rules, word, aim):
    ties = slow_filled(len(word) + 1, set(Store.row(word).ties()), rules)
    return any((walk[0], walk[-1]) == (0, len(word)) for walk in all_walks(len(word) + 1, ties, aim))


class Leads(Case):
    def test_ordinary(self):
        self.is_bool(False, leads(TURNS, "abab", "ba"))
        self.is_bool(True, leads(TURNS, "abab", "cc"))
        self.is_bool(True, leads(rules=TURNS, word="abab", aim="a"))
        self.is_bool(True, leads([], "ab", "ab"))
        self.is_bool(False, leads((), "ab", "abb"))
        self.is_bool(False, leads(TURNS, "c", "ab"))
        self.is_bool(False, leads([("a", "b")], "a", "ab"))

    def test_against_walks(self):
        rng = random.Random(61)
        for _ in range(25):
            rules = some_rules(rng, rng.randint(0, 4), "abc")
            word = "".join(rng.choice("abc") for _ in range(rng.randint(1, 4)))
            found = [aim for aim in all_words(len(word), "abc") if slow_leads(rules, word, aim)]
            for aim in all_words(4, "abc"):
                self.is_bool(aim in found, leads(rules, word, aim))
                paper, other = leads_paper(rules, word, aim), against(rules, word, aim)
                self.assertEqual((paper is None, other is None), (aim not in found, aim in found))
                self.is_bool(aim in found, is_leads_paper(rules, word, aim, paper))
                self.is_bool(aim not in found, is_against(rules, word, aim, other))
                if paper is not None:
                    self.look_at_paper(rules, word, aim, paper)
                else:
                    self.look_at_other(rules, word, aim, other)
            self.assertEqual(words_from(rules, word), found)
            self.assertEqual(shortest(rules, word), found[0])

    def look_at_paper(self, rules, word, aim, paper):
        self.assertIs(type(paper), tuple)
        lines, positions = paper
        self.assertEqual(len({tie for tie, _ in lines}), len(lines))
        self.assertTrue(slow_is_trace(set(Store.row(word).ties()), rules, lines[-1][0], lines))
        ties = [lines[position][0] for position in positions]
        self.assertEqual("".join(tie[1] for tie in ties), aim)
        self.assertEqual([tie[0] for tie in ties] + [len(word)], [0] + [tie[2] for tie in ties])
        tuples = (tuple((tie, tuple(places)) for tie, places in lines), tuple(positions))
        self.is_bool(True, is_leads_paper(rules, word, aim, tuples))

    def look_at_other(self, rules, word, aim, paper):
        self.assertIs(type(paper), tuple)
        store, pair = paper
        self.assertTrue(obeys(store, rules))
        self.assertIn(pair, pairs(store, word))
        self.assertNotIn(pair, pairs(store, aim))

    def test_facts_in_stores(self):
        rng = random.Random(62)
        for _ in range(60):
            rules = some_rules(rng, rng.randint(1, 3), "ab")
            store = some_store(rng, 4, rng.randint(1, 6), "ab")
            whole = Store(4, sorted(slow_filled(4, set(store.ties()), rules)))
            for word, aim in itertools.product(all_words(2, "ab"), all_words(2, "ab")):
                if leads(rules, word, aim):
                    self.assertTrue(set(pairs(whole, word)) <= set(pairs(whole, aim)))

    def test_errors_in_sequence(self):
        for call, more in ((leads, ()), (leads_paper, ()), (against, ()), (is_leads_paper, (None,)),
                           (is_against, (None,))):
            for value in (None, True, 0, "ab", {}, Odd()):
                self.refuses(InvalidRules, {"position": None}, call, value, None, None, *more)
            for value in WRONG_RULES:
                self.refuses(InvalidRules, {"position": 1}, call, [("ab", "c"), value], None, None, *more)
            self.refuses(InvalidRules, {"position": 2}, call, TURNS + TURNS, None, None, *more)
            for value in WRONG_WORDS:
                self.refuses(InvalidWord, {"value": value}, call, FIVE, value, None, *more)
                self.refuses(InvalidWord, {"value": value}, call, FIVE, "a", value, *more)
            self.too_many("rules", 4, call, FIVE, "a", "a", *more)
            call(FIVE[:4], "a", "a", *more)


class Papers(Case):
    lines = [((0, "a", 1), []), ((1, "b", 2), []), ((0, "c", 2), [0, 1]), ((2, "a", 3), [])]

    def test_leads_papers(self):
        self.is_bool(True, is_leads_paper(TURNS, "aba", "ca", (self.lines, [2, 3])))
        self.is_bool(True, is_leads_paper(rules=TURNS, word="aba", aim="aba", value=(self.lines, (0, 1, 3))))
        twice = self.lines + [((0, "c", 2), [0, 1])]
        self.is_bool(True, is_leads_paper(TURNS, "aba", "ca", (twice, [4, 3])))

    def test_leads_papers_that_are_otherwise(self):
        for value in wrong_values():
            self.is_bool(False, is_leads_paper(TURNS, "aba", "ca", value))
            self.is_bool(False, is_leads_paper(TURNS, "aba", "ca", (value, [2, 3])))
            self.is_bool(False, is_leads_paper(TURNS, "aba", "ca", (self.lines, value)))
            self.is_bool(False, is_leads_paper(TURNS, "aba", "ca", (self.lines, [2, value])))
            self.is_bool(False, is_leads_paper(TURNS, "aba", "ca", (self.lines[:3] + [value], [2, 3])))
        for positions in ([3, 2], [2], [3], [0, 1, 3], [2, 3, 3], [2, 4], [2, -1], [], {2: 0, 3: 0}):
            self.is_bool(False, is_leads_paper(TURNS, "aba", "ca", (self.lines, positions)))
        self.is_bool(False, is_leads_paper(TURNS, "aba", "c", (self.lines, [2])))
        self.is_bool(False, is_leads_paper(TURNS, "aba", "a", (self.lines, [3])))
        self.is_bool(False, is_leads_paper([], "aba", "ca", (self.lines, [2, 3])))
        self.is_bool(False, is_leads_paper(TURNS, "abb", "ca", (self.lines, [2, 3])))
        self.is_bool(False, is_leads_paper(TURNS, "aba", "ca", [self.lines, [2, 3]]))
        self.is_bool(False, is_leads_paper(TURNS, "aba", "ca", (self.lines, [2, 3], 0)))
        self.is_bool(False, is_leads_paper(TURNS, "aba", "aa", (self.lines, [0, 3])))
        self.is_bool(False, is_leads_paper(TURNS, "aba", "ca", ([], [])))
        one = [((0, "a", 1), [])]
        self.is_bool(False, is_leads_paper([], "a", "a", (one, [False])))
        self.is_bool(True, is_leads_paper([], "a", "a", (one, [0])))

    def test_against_papers(self):
        good = Store(3, [(0, "a", 1), (1, "b", 2), (0, "c", 2)])
        self.is_bool(True, is_against(TURNS, "ab", "a", (good, (0, 2))))
        self.is_bool(True, is_against(rules=TURNS, word="ab", aim="ba", value=(good, (0, 2))))
        self.is_bool(True, is_against(TURNS, "ab", "a", (good.beside(Store(2)), (0, 2))))
        for value in wrong_values() + [(good, (0, 1)), (good, (2, 0)), (good, [0, 2]), (good, (False, 2)), (good, (0, 3)),
                                       (good, (0, 2, 0)), (good, None), (good,), (good, (0, 2), 0), [good, (0, 2)],
                                       (good - (0, "c", 2), (0, 2)), (good + (0, "a", 2), (0, 2)),
                                       (good.ties(), (0, 2)), (None, (0, 2)), (repr(good), (0, 2)), (good, Odd())]:
            self.is_bool(False, is_against(TURNS, "ab", "a", value))
        self.is_bool(False, is_against(TURNS, "ab", "c", (good, (0, 2))))


class WordsFrom(Case):
    def test_ordinary(self):
        self.assertEqual(words_from(TURNS, "abab"), ["a", "cc", "abc", "cab", "abab"])
        self.assertEqual(words_from(rules=[], word="fab"), ["fab"])
        self.assertEqual(shortest(SOME, "fabb"), "fd")
        self.assertEqual(shortest(rules=[], word="fab"), "fab")

    def test_sorted_by_length_first(self):
        self.assertEqual(words_from([("a", "b"), ("aa", "f")], "aa"), ["f", "aa", "ab", "ba", "bb"])
        self.assertEqual(shortest([("a", "b"), ("aa", "f")], "aa"), "f")
        self.assertEqual(shortest([("b", "a")], "bcb"), "aca")

    def test_two_hundred_words_and_one_more(self):
        self.assertEqual(len(words_from([("a", "b")], "a" * 7)), 128)
        self.too_many("words", 200, words_from, [("a", "b")], "a" * 8)
        self.assertEqual(shortest([("a", "b")], "b" * 11 + "a"), "b" * 11 + "a")
        self.assertEqual(shortest([("b", "a")], "b" * 12), "a" * 12)
        rng = random.Random(63)
        for _ in range(60):
            rules = some_rules(rng, 4, "abc")
            word = "".join(rng.choice("abc") for _ in range(rng.randint(4, 6)))
            many = self.how_many(rules, word)
            if many > 200:
                self.too_many("words", 200, words_from, rules, word)
            else:
                self.assertEqual(len(words_from(rules, word)), many)
            self.is_bool(True, leads(rules, word, shortest(rules, word)))

    def test_just_two_hundred_words_and_just_one_more(self):
        most = [("b", "c"), ("cc", "d"), ("dd", "b"), ("d", "b")]
        self.assertEqual(self.how_many(most, "bbcdbca"), 200)
        self.assertEqual(len(words_from(most, "bbcdbca")), 200)
        more = [("c", "a"), ("aa", "c"), ("bba", "c"), ("c", "d")]
        self.assertEqual(self.how_many(more, "bcacccbb"), 201)
        self.too_many("words", 200, words_from, more, "bcacccbb")

    def how_many(self, rules, word):
        """How many unlike words lead from 0 to the last node of the filled row: by sets of nodes."""
        ties = slow_filled(len(word) + 1, set(Store.row(word).ties()), rules)
        layer, many = {frozenset([0]): 1}, 0
        while layer:
            further = {}
            for nodes, ways in layer.items():
                for letter in "abcdef":
                    goals = frozenset(y for x, sign, y in ties if x in nodes and sign == letter)
                    if goals:
                        further[goals] = further.get(goals, 0) + ways
                        many += ways if len(word) in goals else 0
            layer = further
        return many

    def test_twelve_letters(self):
        word = "abcdefabcdef"
        self.assertEqual(words_from([], word), [word])
        self.too_many("words", 200, words_from, [("ab", "c"), ("cc", "a"), ("a", "b"), ("b", "a")], "ab" * 6)
        self.assertEqual(shortest([("ab", "c"), ("cc", "a"), ("a", "b"), ("b", "a")], "ab" * 6), "ac")
        self.assertEqual(shortest([("abc", "a"), ("def", "b")], word), "abab")
        self.assertEqual(shortest([("aa", "a")], "a" * 12), "a")
        self.too_many("words", 200, words_from, [("aa", "b"), ("ab", "c"), ("bc", "d"), ("cd", "a")], "a" * 12)

    def test_errors_in_sequence(self):
        for call in (words_from, shortest):
            self.refuses(InvalidRules, {"position": None}, call, None, None)
            self.refuses(InvalidRules, {"position": 0}, call, [None], None)
            for value in WRONG_WORDS:
                self.refuses(InvalidWord, {"value": value}, call, FIVE, value)
            self.too_many("rules", 4, call, FIVE, "a" * 12)


class Implied(Case):
    def test_is_rule(self):
        for value in (("a", "a"), ("abc", "f"), ("fff", "f")):
            self.is_bool(True, is_rule(value))
        for value in WRONG_RULES:
            self.is_bool(False, is_rule(value=value))

    def test_is_implied(self):
        self.is_bool(True, is_implied(SOME[:2], SOME[2]))
        self.is_bool(False, is_implied(rules=SOME[1:], rule=SOME[0]))
        self.is_bool(True, is_implied([], ("f", "f")))
        self.is_bool(False, is_implied([], ("ff", "f")))
        for value in WRONG_RULES:
            self.refuses(InvalidRule, {"value": value}, is_implied, FIVE, value)
        self.refuses(InvalidRules, {"position": 0}, is_implied, [None], None)
        self.refuses(InvalidRules, {"position": None}, is_implied, "ab", None)
        self.too_many("rules", 4, is_implied, FIVE, ("a", "b"))

    def test_needless(self):
        self.assertEqual(needless(SOME), [2])
        self.assertEqual(needless([]), [])
        self.assertEqual(needless(rules=[("a", "a"), ("ab", "c")]), [0])
        both = [("a", "b"), ("b", "c"), ("a", "c"), ("c", "b")]
        self.assertEqual(needless(both), [0, 2])

    def test_fewest_rules(self):
        self.assertEqual(fewest_rules(SOME), [("ab", "c"), ("cb", "d")])
        self.assertEqual(fewest_rules(rules=()), [])
        self.assertEqual(fewest_rules([("a", "a"), ("bb", "b")]), [("bb", "b")])
        self.assertEqual(fewest_rules([("a", "a")]), [])
        both = [("a", "b"), ("b", "c"), ("a", "c"), ("c", "b")]
        self.assertEqual(fewest_rules(both), [("a", "b"), ("b", "c"), ("c", "b")])
        self.assertEqual(fewest_rules(both[::-1]), [("c", "b"), ("a", "c"), ("b", "c")])

    def test_against_choices(self):
        rng = random.Random(64)
        for _ in range(80):
            rules = some_rules(rng, rng.randint(0, 4), "ab")
            others = some_rules(rng, rng.randint(0, 4), "ab")
            implied = [slow_leads(rules, *rule) for rule in others]
            self.assertEqual([is_implied(rules, rule) for rule in others], implied)
            self.assertEqual(needless(rules), [at for at, rule in enumerate(rules) if slow_leads(
                [one for one in rules if one != rule], *rule)])
            alike = all(implied) and all(slow_leads(others, *rule) for rule in rules)
            self.is_bool(alike, are_alike(rules, others))
            store = parting_store(rules, others)
            self.assertEqual(store is None, alike)
            self.is_bool(not alike, is_parting_store(rules, others, store))
            choices = [places for many in range(5) for places in itertools.combinations(range(len(rules)), many)]
            fewest = next(places for places in choices if all(
                slow_leads([rules[at] for at in places], *rule) for rule in rules))
            self.assertEqual(fewest_rules(rules), [rules[at] for at in fewest])

    def test_alike(self):
        self.is_bool(True, are_alike(SOME, SOME[1::-1]))
        self.is_bool(False, are_alike(rules=SOME, others=SOME[:1]))
        self.is_bool(True, are_alike([], (("a", "a"),)))
        self.assertEqual(parting_store(rules=SOME, others=SOME[:2]), None)

    def test_parting_stores(self):
        one, other = [("ab", "c")], [("ab", "c"), ("c", "d")]
        good = Store(2, [(0, "c", 1)])
        for first, second in ((one, other), (other, one)):
            self.is_bool(True, is_parting_store(rules=first, others=second, value=good))
            self.is_bool(False, is_parting_store(first, second, good + (0, "d", 1)))
            self.is_bool(False, is_parting_store(first, second, Store.row("ab")))
            for value in wrong_values() + [good.ties(), (good,), repr(good)]:
                self.is_bool(False, is_parting_store(first, second, value))
            self.is_bool(True, is_parting_store(first, second, parting_store(first, second)))

    def test_errors_in_sequence(self):
        for call, more in ((are_alike, ()), (parting_store, ()), (is_parting_store, (None,))):
            for value in (None, "ab", 0, {}):
                self.refuses(InvalidRules, {"position": None}, call, value, None, *more)
                self.refuses(InvalidRules, {"position": None}, call, FIVE, value, *more)
            for value in WRONG_RULES:
                self.refuses(InvalidRules, {"position": 0}, call, [value], None, *more)
                self.refuses(InvalidRules, {"position": 1}, call, FIVE, [("ab", "c"), value], *more)
            self.too_many("rules", 4, call, FIVE, [], *more)
            self.too_many("rules", 4, call, [], FIVE, *more)
        for call in (needless, fewest_rules):
            self.refuses(InvalidRules, {"position": None}, call, None)
            self.refuses(InvalidRules, {"position": 5}, call, FIVE + [FIVE[0]])
            self.too_many("rules", 4, call, FIVE)
            call(FIVE[:4])

    def test_nothing_is_changed(self):
        rules, others = list(SOME), list(TURNS)
        needless(rules), fewest_rules(rules), are_alike(rules, others), parting_store(rules, others)
        words_from(rules, "ab"), leads_paper(rules, "ab", "c"), against(rules, "ab", "d")
        self.assertEqual((rules, others), (SOME, TURNS))
        fewest_rules(rules).clear()
        self.assertEqual(rules, SOME)


if __name__ == "__main__":
    unittest.main()
