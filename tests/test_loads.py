"""Points [87] and [88], and netkeep/loads.py: places of kept code, prices, code of plans, and price ranks."""

import random
import unittest

from netkeep.answers import product
from netkeep.code import Code, run_kept
from netkeep.errors import InvalidNumber, InvalidWord, NotSettled
from netkeep.faults import InvalidFares, InvalidLines
from netkeep.loads import (
    are_price_ranks, cheapest_code, cheapest_price, code_of_plan, is_code_of_plan, is_sure, places, price, price_ranks,
)
from netkeep.lots import Lot, kept_of
from netkeep.plans import plan
from coded import (
    KEPT, all_plans, plan_lines, slow_are_ranks, slow_cheapest, slow_places, slow_price, slow_word, some_lines, spans_of,
)
from support import Case, Odd, Same, otherwise, slow_settles, some_store, wrong_values

LOT = Lot(["ab", "b", "bc"])
FARES = {"back": 3, "keep": 1, "then": 2}
CODE = Code([("keep", 0, "aaaa"), ("keep", 1, "aaa"), ("back", 0, 0, 1), ("keep", 1, "aaaa"), ("then", 0, 0, 1)])
PLAN = Code([("keep", 0, "ab"), ("keep", 1, "b"), ("back", 0, 0, 1), ("keep", 1, "bc"), ("then", 0, 0, 1)])
WRONG_FARES = wrong_values() + [
    {"back": 1, "keep": 1}, {"back": 1, "keep": 1, "then": 1, "or": 1}, {"back": 1, "keep": 1, "then": -1},
    {"back": 1, "keep": 1, "then": 1001}, {"back": True, "keep": 1, "then": 1}, {"back": 1, "keep": None, "then": 1},
    {"back": 1, "keep": "1", "then": 1}, {"back": 1, "keep": 1, "Then": 1}, {"back": 1, "keep": 1, 0: 1},
    {"back": 1, "keep": 1, Same(): 1}, [("back", 1), ("keep", 1), ("then", 1)], {"back": 1, "keep": 1, "then": 10 ** 20},
]
WRONG_WORDS = wrong_values() + ["A", "aB", "a" * 13, "abg"]
NOT_KEPT = [("load", 0, "a"), ("or", 0, 0, 0), ("again", 0, 0), ("perhaps", 1, 0)]


def some_fares(rng):
    return {kind: rng.choice((0, 0, 1, 2, 7, 1000)) for kind in rng.sample(("back", "keep", "then"), 3)}


def some_word(rng, longest=6):
    return "".join(rng.choice("ab") for _ in range(rng.randint(1, longest)))


class Places(Case):
    def test_ordinary(self):
        self.assertEqual(places(CODE, "aaaaa"), [[4], [3], [1], [4], [5]])
        self.is_bool(True, is_sure(CODE, "aaaaa"))
        self.is_bool(False, is_sure(code=CODE, word="aaaaaa"))
        self.assertEqual(places(code=Code([("keep", 0, "ab")]), word="ba"), [[]])
        self.is_bool(True, is_sure(Code([("keep", 0, "ab")]), "ab"))
        # The word behind the places of the one, and the word of both joined.
        self.assertEqual(places(Code([("keep", 0, "a"), ("then", 0, 0, 0), ("then", 0, 0, 0)]), "aaaaa"), [[1], [2], [4]])
        self.assertEqual(places(Code([("keep", 0, "a"), ("then", 1, 0, 0), ("back", 2, 1, 0), ("then", 3, 2, 0),
                                      ("then", 3, 0, 2)]), "aaa"), [[1], [2], [1], [2], []])
        # Joined words of more than twelve letters are none.
        long = Code([("keep", 0, "abcdef"), ("then", 0, 0, 0), ("keep", 1, "abcdef"), ("then", 2, 0, 1), ("back", 3, 2, 0)])
        self.assertEqual(places(long, "abcdefabcdef"), [[6], [12], [6], [], []])
        self.assertEqual(places(Code([("keep", 0, "abcdef"), ("then", 0, 0, 0), ("back", 1, 0, 0)]), "abcdefabcdef"),
                         [[6], [12], [0]])
        # Words that are joined again and again stay no words, instead of growing beyond all bounds.
        self.assertEqual(places(Code([("keep", 0, "a")] + [("then", 0, 0, 0)] * 39), "aaaa")[:4], [[1], [2], [4], []])
        # A table by itself: an empty stretch is left.
        self.assertEqual(places(Code([("keep", 0, "ab"), ("back", 0, 0, 0)]), "abc"), [[2], [0]])

    def test_against_slow_places(self):
        rng = random.Random(221)
        for _ in range(300):
            word = some_word(rng)
            lines = some_lines(rng, rng.randint(1, 9), KEPT, words=spans_of(word) + ["ab"], registers=3)
            told = [sorted(some) for some in slow_places(lines, word)]
            self.assertEqual(places(Code(lines), word), told)
            self.is_bool(len(word) in told[-1], is_sure(Code(lines), word))

    def test_what_tables_have_at_their_places(self):
        rng = random.Random(222)
        sure = 0
        for _ in range(200):
            word = some_word(rng, 5)
            code = Code(some_lines(rng, rng.randint(1, 7), KEPT, words=spans_of(word), registers=3))
            store = some_store(rng, rng.randint(1, 4), rng.randint(0, 9), "ab")
            ties, nodes = set(store.ties()), store.nodes
            tables = run_kept(code, nodes, kept_of(store, Lot([]), "whether") | {
                line[2]: sorted(slow_word(nodes, ties, line[2])) for line in code.lines() if line[0] == "keep"})
            for table, some in zip(tables, places(code, word)):
                for place in some:
                    self.assertLessEqual(slow_word(nodes, ties, word[:place]), set(table))
                    rest = sorted(slow_word(nodes, ties, word[place:]))
                    self.assertLessEqual(set(product(nodes, table, rest)), slow_word(nodes, ties, word))
            if is_sure(code, word):
                sure += 1
                self.assertEqual(tables[-1], sorted(slow_word(nodes, ties, word)))
        self.assertGreater(sure, 10)

    def test_errors_in_sequence(self):
        for at, line in enumerate(NOT_KEPT):
            code = Code([("keep", 0, "a")] * (at + 1) + [line, ("load", 0, "a")])
            self.refuses(InvalidLines, {"position": at + 1}, places, code, None)
            self.refuses(InvalidLines, {"position": at + 1}, is_sure, code, None)
            self.refuses(InvalidLines, {"position": at + 1}, price, code, None)
        for value in WRONG_WORDS:
            self.refuses(InvalidWord, {"value": value}, places, CODE, value)
            self.refuses(InvalidWord, {"value": value}, is_sure, CODE, value)
        for value in WRONG_FARES:
            self.refuses(InvalidFares, {"value": value}, price, CODE, value)

    def test_new_lists(self):
        code = Code([("keep", 0, "a"), ("keep", 1, "a")])
        told = places(code, "a")
        told[0].append(7)
        self.assertEqual((told[1], places(code, "a")), ([1], [[1], [1]]))


class Prices(Case):
    def test_ordinary(self):
        self.assertEqual(price(CODE, FARES), 8)
        self.assertEqual(price(code=CODE, fares={"then": 1000, "keep": 0, "back": 0}), 1000)
        self.assertEqual(price(Code([("keep", 0, "a")] * 40), {"then": 0, "keep": 1000, "back": 0}), 40000)
        rng = random.Random(223)
        for _ in range(30):
            lines, fares = some_lines(rng, rng.randint(1, 12), KEPT), some_fares(rng)
            self.assertEqual(price(Code(lines), fares), slow_price(lines, fares))


class CodeOfPlans(Case):
    def test_ordinary(self):
        self.assertEqual(code_of_plan(LOT, "abc"), PLAN)
        self.is_bool(True, is_code_of_plan(LOT, "abc", PLAN))
        self.assertEqual(code_of_plan(lot=Lot(["ab"]), word="abab"),
                         Code([("keep", 0, "ab"), ("keep", 1, "ab"), ("then", 0, 0, 1)]))
        self.assertEqual(code_of_plan(Lot(["a"]), "a"), Code([("keep", 0, "a")]))

    def test_against_plans(self):
        rng = random.Random(224)
        good = 0
        for _ in range(120):
            word = some_word(rng)
            lot = Lot(rng.sample(spans_of(word), min(3, len(spans_of(word)))))
            steps = plan(lot, word)
            if steps is None:
                self.refuses(NotSettled, {"value": word}, code_of_plan, lot, word)
                continue
            good += 1
            code = code_of_plan(lot, word)
            self.assertEqual(code.lines(), plan_lines(steps))
            self.is_bool(True, is_sure(code, word))
            for other in all_plans(lot.words(), word, 4):
                self.is_bool(True, is_code_of_plan(lot, word, Code(plan_lines(other))))
        self.assertGreater(good, 30)

    def test_values_that_are_otherwise(self):
        for value in wrong_values() + [PLAN.lines(), repr(PLAN), Code, Odd()]:
            self.is_bool(False, is_code_of_plan(LOT, "abc", value))
        lines = PLAN.lines()
        plans = [plan_lines(steps) for steps in all_plans(LOT.words(), "abc", 5)]
        many = 0
        for value in otherwise(lines):
            try:
                code = Code(value)
            except InvalidLines:
                continue
            many += 1
            self.is_bool(code.lines() in plans, is_code_of_plan(LOT, "abc", code))
        self.assertGreater(many, 30)
        for other in ([("keep", 1, "a")], [("keep", 0, "a"), ("keep", 1, "b")], [("keep", 0, "ab"), ("keep", 1, "c")],
                      [("keep", 0, "a"), ("keep", 1, "bc"), ("then", 0, 1, 0)], [("keep", 0, "abc"), ("keep", 1, "a")],
                      [("keep", 0, "a"), ("keep", 1, "bc"), ("then", 1, 0, 1)], [("load", 0, "a")],
                      [("keep", 0, "a"), ("keep", 0, "bc"), ("then", 0, 0, 0)],
                      [("keep", 0, "ab"), ("keep", 1, "ab"), ("back", 0, 0, 1)]):
            self.is_bool(False, is_code_of_plan(Lot(["a", "ab", "b", "bc", "c"]), "abc", Code(other)))
        self.is_bool(True, is_code_of_plan(lot=Lot(["a", "bc"]), word="abc", value=Code(
            [("keep", 0, "a"), ("keep", 1, "bc"), ("then", 0, 0, 1)])))
        # Plans may go on behind the last place, and come back; words that the lot has not are no steps.
        there = [("keep", 0, "a"), ("keep", 1, "a"), ("then", 0, 0, 1), ("keep", 1, "a"), ("back", 0, 0, 1)]
        self.is_bool(True, is_code_of_plan(Lot(["a"]), "a", Code(there[:1])))
        self.is_bool(False, is_code_of_plan(Lot(["a"]), "a", Code(there)))
        self.is_bool(True, is_code_of_plan(Lot(["a"]), "aa", Code(there + there[1:3])))
        self.is_bool(False, is_code_of_plan(Lot(["b"]), "a", Code(there[:1])))
        self.is_bool(False, is_code_of_plan(Lot([]), "a", Code(there[:1])))
        for line in (("keep", 1, "a"), ("load", 0, "a")):
            self.is_bool(False, is_code_of_plan(Lot(["a"]), "a", Code([line])))
            self.is_bool(False, is_code_of_plan(Lot(["a"]), "aa", Code([line, ("keep", 1, "a"), ("then", 0, 1, 1)])))

    def test_long_plans(self):
        forth, back = [("keep", 1, "a"), ("then", 0, 0, 1)], [("keep", 1, "a"), ("back", 0, 0, 1)]
        long = [("keep", 0, "a")] + (forth + back) * 9 + forth
        self.assertEqual(len(long), 39)
        self.is_bool(True, is_code_of_plan(Lot(["a"]), "aa", Code(long)))
        self.is_bool(False, is_code_of_plan(Lot(["a"]), "a", Code(long)))
        # Lines that look like more steps than code of forty lines has.
        loose = [("keep", 0, "a")] + ([("keep", 1, "a")] + back) * 13
        self.is_bool(False, is_code_of_plan(Lot(["a"]), "a", Code(loose)))
        self.is_bool(False, is_code_of_plan(Lot(["a"]), "aa", Code([("keep", 0, "a")] * 40)))

    def test_words_that_are_none(self):
        for value in WRONG_WORDS:
            self.refuses(InvalidWord, {"value": value}, code_of_plan, LOT, value)
            self.refuses(InvalidWord, {"value": value}, is_code_of_plan, LOT, value, PLAN)
            self.refuses(InvalidWord, {"value": value}, cheapest_price, LOT, value, None)
            self.refuses(InvalidWord, {"value": value}, cheapest_code, LOT, value, None)
            self.refuses(InvalidWord, {"value": value}, price_ranks, LOT, value, None, None)
            self.refuses(InvalidWord, {"value": value}, are_price_ranks, LOT, value, None, None, None)


class Cheapest(Case):
    def test_ordinary(self):
        self.assertEqual(cheapest_price(LOT, "abc", FARES), 8)
        self.assertEqual(cheapest_code(lot=LOT, word="abc", fares=FARES), PLAN)
        self.assertIsNone(cheapest_price(lot=Lot(["ab"]), word="abc", fares=FARES))
        self.assertIsNone(cheapest_code(Lot(["ab"]), "abc", FARES))
        # Two lines forth are dearer than three of which one leads back.
        lot = Lot(["a", "aa", "aaa"])
        self.assertEqual(cheapest_price(lot, "aaaaa", {"back": 0, "keep": 0, "then": 5}), 5)
        self.assertEqual(cheapest_price(Lot(["aaa", "aa"]), "aaaa", {"back": 0, "keep": 9, "then": 1}), 19)
        self.assertEqual(cheapest_price(Lot(["aaa", "aaaa"]), "a", {"back": 0, "keep": 1, "then": 5}), None)

    def test_against_places(self):
        rng = random.Random(225)
        settled = {True: 0, False: 0}
        for _ in range(250):
            word, fares = some_word(rng, 8), some_fares(rng)
            spans = spans_of(word)
            lot = Lot(rng.sample(spans, min(rng.randint(1, 5), len(spans))))
            told = slow_cheapest(lot.words(), word, fares)
            settled[told is not None] += 1
            self.assertEqual(cheapest_price(lot, word, fares), told)
            self.assertEqual(told is not None, slow_settles(lot.words(), word))
            code = cheapest_code(lot, word, fares)
            self.assertEqual(code is None, told is None)
            for number in (0, 1, 10 ** 29) if told is None else {0, 1, max(0, told - 1), told, told + 1, 10 ** 29}:
                ranks = price_ranks(lot, word, fares, number)
                self.assertEqual(ranks is None, told is not None and told < number)
                if ranks is not None:
                    self.assertTrue(slow_are_ranks(lot.words(), word, fares, number, ranks))
                    self.is_bool(True, are_price_ranks(lot, word, fares, number, tuple(ranks)))
                    self.is_bool(slow_are_ranks(lot.words(), word, fares, number + 1, ranks),
                                 are_price_ranks(lot, word, fares, number + 1, ranks))
            if code is not None:
                self.is_bool(True, is_code_of_plan(lot, word, code))
                self.assertEqual(price(code, fares), told)
        self.assertGreater(min(settled.values()), 40)

    def test_twelve_letters_and_eight_words(self):
        lot = Lot(["a" * many for many in range(5, 13)])
        for word in ("a" * 12, "a" * 4, "a" * 5):
            for fares in ({"back": 0, "keep": 0, "then": 0}, {"back": 1000, "keep": 1000, "then": 1000}):
                told = cheapest_price(lot, word, fares)
                self.assertEqual(told, slow_cheapest(lot.words(), word, fares))
                if told is not None:
                    self.assertEqual(price(cheapest_code(lot, word, fares), fares), told)
        long = Lot(["abcdefabcde", "bcdefabcdef", "bcdefabcde"])
        self.assertEqual(cheapest_price(long, "abcdefabcdef", FARES), 3 + 3 + 2)

    def test_ranks_that_are_otherwise(self):
        kinds = {True: 0, False: 0}
        for lot, word, number in ((LOT, "abc", 8), (LOT, "abc", 5), (Lot(["ab"]), "abc", 4)):
            ranks = price_ranks(lot, word, FARES, number)
            for value in otherwise(ranks):
                good = slow_are_ranks(lot.words(), word, FARES, number, value)
                kinds[good] += 1
                self.is_bool(good, are_price_ranks(lot, word, FARES, number, value))
        self.assertGreater(min(kinds.values()), 3)
        for value in ([False, 3, 3, 6], [0, True, 3, 6], "0123", {0: 0}, [0, 3, Same(), 6], None, [0, 3, 3]):
            self.is_bool(False, are_price_ranks(LOT, "abc", FARES, 1, value))

    def test_errors_in_sequence(self):
        for value in WRONG_FARES:
            self.refuses(InvalidFares, {"value": value}, cheapest_price, LOT, "abc", value)
            self.refuses(InvalidFares, {"value": value}, cheapest_code, LOT, "abc", value)
            self.refuses(InvalidFares, {"value": value}, price_ranks, LOT, "abc", value, None)
            self.refuses(InvalidFares, {"value": value}, are_price_ranks, LOT, "abc", value, None, None)
        for value in wrong_values():
            if not (type(value) is int and value >= 0):
                self.refuses(InvalidNumber, {"value": value}, price_ranks, LOT, "abc", FARES, value)
                self.refuses(InvalidNumber, {"value": value}, are_price_ranks, LOT, "abc", FARES, value, None)

    def test_the_sequence_of_fares_has_no_effect(self):
        turned = dict(reversed(FARES.items()))
        self.assertEqual(cheapest_code(LOT, "abc", turned), cheapest_code(LOT, "abc", FARES))
        self.assertEqual(price_ranks(LOT, "abc", turned, 3), price_ranks(LOT, "abc", FARES, 3))
        zero = {"back": 0, "keep": 0, "then": 0}
        self.assertEqual((price(CODE, zero), cheapest_price(LOT, "abc", zero)), (0, 0))
        self.assertIsNone(price_ranks(LOT, "abc", zero, 1))


if __name__ == "__main__":
    unittest.main()
