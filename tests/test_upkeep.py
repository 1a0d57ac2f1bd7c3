"""Points [45] to [47] and netkeep/upkeep.py: stretches, lots that keep themselves up, and stores that go apart."""

import itertools
import random
import unittest

from netkeep.answers import answer
from netkeep.errors import (
    InvalidKept, InvalidLetter, InvalidNodes, InvalidPlaces, InvalidTelling, InvalidTie, InvalidWord, NoMatrices,
    NotKeptUp,
)
from netkeep.gaps import told_apart
from netkeep.lots import Lot, kept_of
from netkeep.plans import cut
from netkeep.store import Store
from netkeep.twins import twins
from netkeep.upkeep import (
    apart, behind_put, behind_strike, choices, first_gap, is_apart, is_plans_paper, keeps_up, kept_letters, part,
    plans_paper, stretches, unsettled,
)
from support import (
    Case, Odd, Same, all_words, otherwise, slow_is_plan, slow_keeps_up, slow_settles, slow_stretches, some_store, some_words,
    subsets, wrong_values,
)

WRONG_WORDS = wrong_values() + ["aaaaaaaaaaaaa", "g", "aB", Lot(["a"])]
WRONG_LETTERS = wrong_values() + ["g", "A", "ab", "", 0, ["a"]]
WRONG_TELLINGS = ["", "Many", None, True, ["many"], Odd(), Same(), 0]
WRONG_NODES = [0, 41, True, None, "4", [4], Odd()]
LOT = Lot(["ab", "b"])
EMPTY = {"ab": [], "b": []}
# Lots that keep themselves up for a.
KEPT_UP = [["ab", "b"], ["a"], ["aa", "a"], ["aab", "b", "ab", "a"], ["aba", "b", "ab", "ba"], ["bab", "b", "ba"],
           ["aaa", "aa", "a"], ["b", "cb", "abc", "bc"], ["bbabb", "bb"], ["cab", "c", "b"], ["bcd"],
           ["abc", "bc", "cabc", "c", "cb"], ["abbc", "bb", "bc", "bbc", "b"]]


def all_ties(nodes, letters):
    return list(itertools.product(range(nodes), letters, range(nodes)))


class Stretches(Case):
    def test_ordinary(self):
        self.assertEqual(stretches("aab", "a"), ["", "a", "b", "ab"])
        self.assertEqual(stretches(word="abc", letter="d"), [])
        self.assertEqual(stretches("a", "a"), [""])
        self.assertEqual(stretches("bab", "a"), ["b"])
        self.assertEqual(stretches("ab", "a"), ["", "b"])
        self.assertEqual(stretches("babcab", "a"), ["b", "bc", "babc", "bcab"])
        self.assertEqual(stretches("a" * 12, "a"), ["a" * many for many in range(12)])

    def test_against_all_parts(self):
        for word in all_words(5, "abc"):
            for letter in "abcd":
                self.assertEqual(stretches(word, letter), slow_stretches(word, letter))
        self.assertEqual(stretches("abcdefabcdef", "c"), slow_stretches("abcdefabcdef", "c"))

    def test_choices(self):
        self.assertEqual(choices("aba", "a"), [[0], [0, 2], [2]])
        self.assertEqual(choices(word="aba", letter="c"), [])
        self.assertEqual(choices("bbb", "b"), [[0], [0, 1], [0, 1, 2], [0, 2], [1], [1, 2], [2]])
        self.assertEqual(len(choices("a" * 12, "a")), 4095)
        for word in ("abcabc", "aab", "f", "fafafa"):
            for letter in "af":
                places = [at for at, one in enumerate(word) if one == letter]
                self.assertEqual(choices(word, letter), sorted(subsets(places)[1:]))
        choices("aba", "a")[0].clear()
        self.assertEqual(choices("aba", "a")[0], [0])

    def test_errors(self):
        for call in (stretches, choices):
            for value in WRONG_WORDS:
                self.refuses(InvalidWord, {"value": value}, call, value, None)
            for value in WRONG_LETTERS:
                self.refuses(InvalidLetter, {"value": value}, call, "a", value)


class KeepsUp(Case):
    def test_ordinary(self):
        self.assertEqual(kept_letters(LOT), "acdef")
        self.is_bool(True, keeps_up(LOT, "a"))
        self.is_bool(False, keeps_up(lot=LOT, letter="b"))
        self.is_bool(True, keeps_up(Lot(), "f"))
        self.assertEqual(kept_letters(lot=Lot()), "abcdef")
        self.assertEqual(first_gap(Lot(["aab", "b"]), "a"), ("aab", 0, 1))
        self.assertEqual(first_gap(lot=LOT, letter="b"), ("ab", 0, 1))
        self.assertIsNone(first_gap(LOT, "a"))
        self.assertEqual(unsettled(Lot(["aab", "b"]), "a"), ["a", "ab"])
        self.assertEqual(unsettled(lot=LOT, letter="a"), [])
        for words in KEPT_UP:
            self.is_bool(True, keeps_up(Lot(words), "a"))

    def test_the_first_word_in_the_sequence_of_the_lot(self):
        self.assertEqual(first_gap(Lot(["aab", "cb"]), "b"), ("cb", 0, 1))
        self.assertEqual(first_gap(Lot(["aab", "ab"]), "a"), ("ab", 1, 2))
        # Of gaps of one word the least one: by the beginning first.
        self.assertEqual(first_gap(Lot(["bacad", "bac"]), "a"), ("bac", 0, 1))
        self.assertEqual(first_gap(Lot(["bacad", "b", "c", "bac"]), "a"), ("bacad", 2, 5))

    def test_against_all_stretches(self):
        rng = random.Random(101)
        for _ in range(300):
            words = some_words(rng, rng.randint(0, 6), "abc", 5)
            lot = Lot(words)
            for letter in "abcd":
                self.is_bool(slow_keeps_up(words, letter), keeps_up(lot, letter))
                lacking = {one for word in words for one in slow_stretches(word, letter) if not slow_settles(words, one)}
                self.assertEqual(unsettled(lot, letter), sorted(lacking, key=lambda one: (len(one), one)))
                self.assertEqual(first_gap(lot, letter), self.slow_gap(lot, letter))
                self.look_at_papers(lot, letter)
            self.assertEqual(kept_letters(lot), "".join(one for one in "abcdef" if slow_keeps_up(words, one)))

    def slow_gap(self, lot, letter):
        for word in lot:
            for begin in range(len(word) + 1):
                for end in range(begin, len(word) + 1):
                    if (begin == 0 or word[begin - 1] == letter) and (end == len(word) or word[end] == letter):
                        if end - begin < len(word) and not slow_settles(lot.words(), word[begin:end]):
                            return word, begin, end
        return None

    def look_at_papers(self, lot, letter):
        paper = plans_paper(lot, letter)
        self.assertEqual(paper is not None, keeps_up(lot, letter))
        self.is_bool(paper is not None, is_plans_paper(lot, letter, paper))
        if paper is not None:
            wanted = {one for word in lot for one in slow_stretches(word, letter)} - {""}
            self.assertEqual(list(paper), sorted(wanted, key=lambda one: (len(one), one)))
            for stretch in paper:
                self.assertTrue(slow_is_plan(lot.words(), stretch, paper[stretch]))

    def test_papers(self):
        self.assertEqual(plans_paper(LOT, "a"), {"b": [(0, "b", 1)]})
        self.assertEqual(plans_paper(lot=LOT, letter="c"), {})
        self.assertIsNone(plans_paper(LOT, "b"))
        self.is_bool(True, is_plans_paper(lot=LOT, letter="a", value={"b": ((0, "b", 1),)}))
        self.is_bool(True, is_plans_paper(LOT, "c", {}))
        self.is_bool(True, is_plans_paper(LOT, "a", {"b": [(0, "b", 1), (1, "b", 0), (0, "b", 1)]}))
        self.is_bool(False, is_plans_paper(LOT, "a", {}))
        self.is_bool(False, is_plans_paper(LOT, "a", {"b": [(0, "b", 1)], "": []}))
        self.is_bool(False, is_plans_paper(LOT, "a", {"b": [(0, "b", 1)], "ab": [(0, "ab", 2)]}))
        self.is_bool(False, is_plans_paper(LOT, "c", []))

    def test_papers_that_are_otherwise(self):
        lot = Lot(["aab", "b", "ab", "a"])
        paper = plans_paper(lot, "a")
        self.assertEqual(sorted(paper), ["a", "ab", "b"])
        for value in otherwise(paper):
            good = (type(value) is dict and list(map(type, value)) == [str] * 3 and set(value) == set(paper)
                    and all(slow_is_plan(lot.words(), one, value[one]) for one in value))
            self.is_bool(good, is_plans_paper(lot, "a", value))
        self.is_bool(True, is_plans_paper(lot, "a", {one: paper[one] for one in reversed(list(paper))}))

    def test_errors(self):
        for call, more in ((keeps_up, ()), (first_gap, ()), (unsettled, ()), (plans_paper, ()), (is_plans_paper, (None,)),
                           (apart, ())):
            for value in WRONG_LETTERS:
                self.refuses(InvalidLetter, {"value": value}, call, LOT, value, *more)
                self.refuses(InvalidLetter, {"value": value}, call, Lot(), value, *more)

    def test_what_is_told_is_new(self):
        unsettled(LOT, "b").clear()
        plans_paper(LOT, "a")["b"].clear()
        self.assertEqual((unsettled(LOT, "b"), plans_paper(LOT, "a")), (["a"], {"b": [(0, "b", 1)]}))


class Part(Case):
    store = Store(3, [(0, "a", 1), (1, "a", 1), (1, "b", 2), (0, "b", 0), (2, "a", 0)])

    def answers(self, word, letter, telling, nodes=3):
        return {one: answer(self.store, one, telling) for one in slow_stretches(word, letter) if one}

    def test_ordinary(self):
        told = part("ab", [0], (0, "a", 2), 3, "whether", {"b": [(0, 0), (1, 2), (2, 1)]})
        self.assertEqual(told, [(0, 1)])
        grid = [[0, 0, 0], [0, 0, 2], [5, 0, 0]]
        self.assertEqual(part(word="ab", places=(0,), tie=(0, "a", 2), nodes=3, telling="many", answers={"b": grid}),
                         [[5, 0, 0], [0, 0, 0], [0, 0, 0]])
        self.assertEqual(part("ab", [1], (1, "b", 0), 3, "many", {"a": [[0, 3, 0], [0, 0, 0], [0, 1, 0]]}),
                         [[3, 0, 0], [0, 0, 0], [1, 0, 0]])
        self.assertEqual(part("a", [0], (1, "a", 0), 2, "whether", {}), [(1, 0)])
        self.assertEqual(part("aa", [0, 1], (1, "a", 1), 2, "many", {}), [[0, 0], [0, 1]])
        self.assertEqual(part("aa", [0, 1], (1, "a", 0), 2, "many", {}), [[0, 0], [0, 0]])

    def test_against_walks(self):
        rng = random.Random(102)
        for _ in range(120):
            word = some_words(rng, 1, "aab", 5)[0]
            tie = (rng.randrange(3), "a", rng.randrange(3))
            self.store = some_store(rng, 3, rng.randint(0, 9), "ab")
            answers = {telling: self.answers(word, "a", telling) for telling in ("whether", "many")}
            for places in choices(word, "a"):
                walks = self.walks_along(word, places, tie)
                many = [[sum((walk[0], walk[-1]) == (x, y) for walk in walks) for y in range(3)] for x in range(3)]
                self.assertEqual(part(word, places, tie, 3, "many", answers["many"]), many)
                self.assertEqual(part(word, tuple(places), tie, 3, "whether", answers["whether"]),
                                 sorted({(walk[0], walk[-1]) for walk in walks}))

    def walks_along(self, word, places, tie):
        """All walks that go along the new tie at these places, and along old ties elsewhere."""
        walks = [[x] for x in range(3)]
        for at, letter in enumerate(word):
            able = [tie] if at in places else self.store.ties()
            walks = [walk + [y] for walk in walks for y in range(3) if (walk[-1], letter, y) in able]
        return walks

    def test_wrong_places(self):
        answers = {"b": [], "ba": [], "bab": [], "ab": [], "": None}
        call = lambda places: part("abab", places, (0, "a", 1), 2, "whether", answers)
        for value in (None, True, 0, "02", {}, {0: 0}, [], (), Odd()):
            self.refuses(InvalidPlaces, {"position": None}, call, value)
        for value in wrong_values() + [1, 3, 4, -2, "0", False, (0,)]:
            self.refuses(InvalidPlaces, {"position": 0}, call, [value, None])
        for value in wrong_values() + [1, 3, 4, 0, "2"]:
            self.refuses(InvalidPlaces, {"position": 1}, call, (0, value))
        self.refuses(InvalidPlaces, {"position": 1}, call, [2, 0])
        self.refuses(InvalidPlaces, {"position": 1}, call, [2, 2])
        self.refuses(InvalidPlaces, {"position": 2}, call, [0, 2, 2])
        self.assertEqual(call([0, 2]), [])
        self.refuses(InvalidPlaces, {"position": 0}, part, "bb", [0], (0, "a", 1), 2, "whether", {})

    def test_wrong_answers(self):
        for telling, good in (("whether", [(0, 1)]), ("many", [[0, 1], [0, 0]])):
            call = lambda value: part("ab", [0], (0, "a", 1), 2, telling, value)
            call({"b": good})
            call({"b": tuple(good), "a": None, 0: 1, "": None})
            for value in [{}, {"ab": good}, {"a": good, "": good}, [good], {"b": [(0, 2)]}, {"b": [[0, 1]]}] + wrong_values():
                self.refuses(InvalidKept, {"value": value}, call, value)
            for value in wrong_values() + [[(0, True)], [[True, 0], [0, 0]], [[0, -1], [0, 0]], [(1, 0), (1, 0), (1, 1)]]:
                if telling == "many" or value not in ([], ()):
                    told = {"b": value}
                    self.refuses(InvalidKept, {"value": told}, call, told)
            for value in (None, [], (), "", 0):
                self.refuses(InvalidKept, {"value": value}, part, "a", [0], (0, "a", 1), 2, telling, value)
        self.refuses(InvalidKept, {}, part, "abab", [0, 2], (0, "a", 1), 2, "whether", {"bab": [], "ab": []})
        # Only what the choice leaves is asked for.
        self.assertEqual(part("abab", [2], (0, "a", 1), 2, "whether", {"ab": [(1, 0)], "b": [(1, 1)]}), [(1, 1)])

    def test_errors_in_sequence(self):
        for value in WRONG_WORDS:
            self.refuses(InvalidWord, {"value": value}, part, value, None, None, 0, None, None)
        for value in WRONG_NODES:
            self.refuses(InvalidNodes, {"value": value}, part, "a", None, None, value, None, None)
        for value in WRONG_TELLINGS:
            self.refuses(InvalidTelling, {"value": value}, part, "a", None, None, 2, value, None)
        for value in wrong_values() + [(0, "a", 2), (2, "a", 0), [0, "a", 1], (0, "g", 1)]:
            self.refuses(InvalidTie, {"value": value}, part, "a", None, value, 2, "many", None)
        self.refuses(InvalidPlaces, {"position": None}, part, "a", None, (0, "a", 1), 2, "many", None)

    def test_at_the_limits(self):
        store = Store(40, [(x, "a", (x + step) % 40) for x in range(40) for step in range(10)])
        answers = {"a" * many: answer(store, "a" * many, "many") for many in range(1, 12)}
        told = part("a" * 12, [0, 5, 11], (0, "a", 39), 40, "many", answers)
        self.assertEqual(told[0][39], answers["aaaa"][39][0] * answers["aaaaa"][39][0])
        self.assertEqual(sum(map(sum, told)), told[0][39])


class Behind(Case):
    def test_ordinary(self):
        self.assertEqual(behind_put(LOT, 3, {"ab": [], "b": [(1, 2)]}, "whether", (0, "a", 1)), {"b": [(1, 2)], "ab": [(0, 2)]})
        told = behind_put(lot=LOT, nodes=3, kept={"ab": (), "b": ((1, 2),)}, telling="whether", tie=(0, "a", 1), done=True)
        self.assertEqual(repr(told), "{'b': [(1, 2)], 'ab': [(0, 2)]}")
        self.assertEqual(behind_put(Lot(), 1, {}, "many", (0, "a", 0)), {})

    def test_put_and_strike_in_all_small_stores(self):
        rng = random.Random(103)
        for words in KEPT_UP:
            lot = Lot(words)
            for _ in range(12):
                nodes = rng.randint(1, 3)
                store = some_store(rng, nodes, rng.randint(0, 7), "abc")
                for tie in all_ties(nodes, "a"):
                    self.look_at(lot, store, tie)

    def test_random_lots(self):
        rng = random.Random(104)
        looked = 0
        while looked < 60:
            words = some_words(rng, rng.randint(1, 5), "ab", 4)
            letter = rng.choice("ab")
            if slow_keeps_up(words, letter) and letter in "".join(words):
                looked += 1
                nodes = rng.randint(1, 4)
                store = some_store(rng, nodes, rng.randint(0, 12), "ab")
                self.look_at(Lot(words), store, rng.choice(all_ties(nodes, letter)))

    def look_at(self, lot, store, tie):
        without, with_it = store - tie, store + tie
        for telling in ("whether", "many"):
            kept, more = kept_of(without, lot, telling), kept_of(with_it, lot, telling)
            self.assertEqual(repr(behind_put(lot, store.nodes, kept, telling, tie)), repr(more))
            self.assertEqual(repr(behind_put(lot, store.nodes, more, telling, tie, False)), repr(more))
            self.assertEqual(kept, kept_of(without, lot, telling))
        many = kept_of(with_it, lot, "many")
        self.assertEqual(repr(behind_strike(lot, store.nodes, many, tie)), repr(kept_of(without, lot, "many")))
        self.assertEqual(many, kept_of(with_it, lot, "many"))

    def test_loops_and_walks_that_go_along_the_tie_again(self):
        lot = Lot(["a" * many for many in range(1, 9)])
        store = Store(2, [(0, "a", 1), (1, "a", 0)])
        self.look_at(lot, store, (1, "a", 1))
        self.look_at(lot, store, (0, "a", 0))
        told = behind_put(lot, 2, kept_of(store, lot, "many"), "many", (1, "a", 1))
        self.assertEqual(told["a" * 8], [[13, 21], [21, 34]])

    def test_a_pair_with_another_way_stays_behind_a_strike(self):
        store = Store(4, [(0, "a", 1), (0, "a", 2), (1, "b", 3), (2, "b", 3)])
        self.assertEqual(behind_strike(LOT, 4, kept_of(store, LOT, "many"), (0, "a", 1))["ab"][0], [0, 0, 0, 1])

    def test_not_done(self):
        whether, many = {"ab": ((0, 0),), "b": ()}, {"ab": ((1,),), "b": ([2],)}
        self.assertEqual(repr(behind_put(LOT, 1, whether, "whether", (0, "a", 0), False)), "{'b': [], 'ab': [(0, 0)]}")
        self.assertEqual(repr(behind_put(LOT, 1, many, "many", (0, "a", 0), done=False)), "{'b': [[2]], 'ab': [[1]]}")
        self.assertEqual(repr(behind_strike(LOT, 1, many, (0, "a", 0), False)), "{'b': [[2]], 'ab': [[1]]}")
        kept = {"b": [[2]], "ab": [[1]]}
        told = behind_strike(LOT, 1, kept, (0, "a", 0), done=False)
        told["b"][0][0] = 9
        told["ab"].clear()
        self.assertEqual(kept, {"b": [[2]], "ab": [[1]]})

    def test_not_kept_up(self):
        for done in (True, False):
            self.refuses(NotKeptUp, {"value": "b"}, behind_put, LOT, 2, EMPTY, "whether", (0, "b", 1), done)
            self.refuses(NotKeptUp, {"value": "b"}, behind_strike, LOT, 1, {"ab": [[0]], "b": [[1]]}, (0, "b", 0), done)
        with self.assertRaises(RuntimeError):
            behind_put(LOT, 2, EMPTY, "whether", (0, "b", 1))

    def test_kept_answers_of_no_store(self):
        kept = {"ab": [[0, 1], [0, 0]], "b": [[0, 0], [0, 2]]}
        self.refuses(InvalidKept, {"value": kept}, behind_strike, LOT, 2, kept, (0, "a", 1))
        self.assertEqual(behind_strike(LOT, 2, kept, (0, "a", 1), False), kept)
        self.assertEqual(behind_strike(LOT, 2, {**kept, "ab": [[0, 2], [0, 0]]}, (0, "a", 1))["ab"], [[0, 0], [0, 0]])
        self.assertEqual(behind_strike(LOT, 2, {**kept, "ab": [[5, 2], [0, 7]]}, (0, "a", 1))["ab"], [[5, 0], [0, 7]])
        self.assertEqual(behind_put(LOT, 2, {"ab": [], "b": [(1, 1)]}, "whether", (0, "a", 1))["ab"], [(0, 1)])

    def test_what_told_raises_is_raised(self):
        # The stretch abc of a word has a plan with a step back alone: over b.
        lot = Lot(["dabc", "ab", "b", "bc"])
        self.assertTrue(keeps_up(lot, "d"))
        kept = {"dabc": [[0]], "ab": [[1]], "b": [[0]], "bc": [[0]]}
        self.refuses(NoMatrices, {}, behind_put, lot, 1, kept, "many", (0, "d", 0))
        self.refuses(NoMatrices, {}, behind_strike, lot, 1, kept, (0, "d", 0))
        self.assertEqual(behind_put(lot, 1, kept, "many", (0, "d", 0), False), kept)
        store = Store(9, [(0, "a", 1), (1, "b", 2), (2, "c", 3), (4, "d", 0)])
        self.too_many("nodes", 8, behind_put, lot, 9, kept_of(store, lot, "many"), "many", (5, "d", 0))
        self.too_many("nodes", 8, behind_strike, lot, 9, kept_of(store, lot, "many"), (4, "d", 0))
        told = behind_put(lot, 9, kept_of(store, lot, "whether"), "whether", (5, "d", 0))
        self.assertEqual(told["dabc"], [(4, 3), (5, 3)])
        self.look_at(lot, Store(8, store.ties()), (5, "d", 0))
        # An idle change asks for nothing.
        self.assertEqual(behind_put(lot, 9, kept_of(store, lot, "many"), "many", (5, "d", 0), False),
                         kept_of(store, lot, "many"))

    def test_a_strike_that_is_told_too_great_comes_ahead_of_what_told_raises(self):
        lot = Lot(["dabc", "ab", "b", "bc", "d"])
        kept = {"dabc": [[0]], "ab": [[1]], "b": [[0]], "bc": [[0]], "d": [[0]]}
        self.refuses(InvalidKept, {"value": kept}, behind_strike, lot, 1, kept, (0, "d", 0))
        self.refuses(NoMatrices, {}, behind_put, lot, 1, kept, "many", (0, "d", 0))

    def test_at_the_limits(self):
        rng = random.Random(105)
        store = some_store(rng, 40, 399, "ab")
        tie = (3, "a", 3) if (3, "a", 3) not in store else (3, "a", 4)
        store = store - tie
        lot = Lot(["a" * many for many in (1, 2, 3, 4, 5, 6, 7, 8)])
        self.look_at(lot, store, tie)
        long = Lot(["a", "a" * 12])
        kept = kept_of(store, long, "whether")
        self.assertEqual(behind_put(long, 40, kept, "whether", tie), kept_of(store + tie, long, "whether"))
        self.look_at(long, store, tie)

    def test_errors_in_sequence(self):
        for value in WRONG_NODES:
            self.refuses(InvalidNodes, {"value": value}, behind_put, LOT, value, None, None, None)
            self.refuses(InvalidNodes, {"value": value}, behind_strike, LOT, value, None, None)
        for value in WRONG_TELLINGS:
            self.refuses(InvalidTelling, {"value": value}, behind_put, LOT, 2, None, value, None)
        many = {"ab": [[0, 0], [0, 0]], "b": [[0, 0], [0, 0]]}
        for value in wrong_values() + [{"ab": []}, {**EMPTY, "a": []}, many]:
            self.refuses(InvalidKept, {"value": value}, behind_put, LOT, 2, value, "whether", None)
        for value in wrong_values() + [{"ab": []}, EMPTY]:
            self.refuses(InvalidKept, {"value": value}, behind_put, LOT, 2, value, "many", None)
            self.refuses(InvalidKept, {"value": value}, behind_strike, LOT, 2, value, None)
        for value in wrong_values() + [(0, "b", 2), (2, "b", 0), [0, "a", 1], (0, "g", 1)]:
            self.refuses(InvalidTie, {"value": value}, behind_put, LOT, 2, EMPTY, "whether", value)
            self.refuses(InvalidTie, {"value": value}, behind_strike, LOT, 2, many, value)


class Apart(Case):
    def test_ordinary(self):
        one, other, tie = apart(Lot(["ab"]), "a")
        self.assertEqual((tie, one), ((4, "a", 0), Store(5, [(0, "b", 2), (1, "b", 3)])))
        self.assertEqual(other, Store(5, [(0, "b", 3), (1, "b", 2)]))
        self.assertIs(type(apart(lot=Lot(["ab"]), letter="a")), tuple)
        self.assertIsNone(apart(LOT, "a"))

    def test_from_the_beginning_to_a_letter(self):
        # The gap a of ab for b: behind the b there is nothing, so the second lone row is one node.
        one, other, tie = apart(Lot(["ab"]), "b")
        self.assertEqual((one, tie), (Store(5, [(0, "a", 2), (1, "a", 3)]), (2, "b", 4)))
        self.assertEqual(other, Store(5, [(0, "a", 3), (1, "a", 2)]))
        one, other, tie = apart(Lot(["acde", "de", "d"]), "c")
        self.assertEqual(first_gap(Lot(["acde", "de", "d"]), "c"), ("acde", 0, 1))
        self.assertEqual((one, tie), (Store(7, [(0, "a", 2), (1, "a", 3), (4, "d", 5), (5, "e", 6)]), (2, "c", 4)))

    def test_behind_a_letter_to_the_end(self):
        lot = Lot(["decab", "de"])
        self.assertEqual(first_gap(lot, "c"), ("decab", 3, 5))
        one, other, tie = apart(lot, "c")
        self.assertEqual((one, tie), (Store(9, [(0, "a", 2), (1, "a", 3), (2, "b", 4), (3, "b", 5), (6, "d", 7), (7, "e", 8)]),
                                      (8, "c", 0)))
        self.assertEqual(other - (0, "a", 3) - (1, "a", 2), one - (0, "a", 2) - (1, "a", 3))

    def test_behind_a_letter_to_a_letter(self):
        # It is never the first gap: the stretch from the beginning to that letter, or a shorter word, has one ahead.
        one, other, tie = told_apart(["decabcff"], "c", ("decabcff", 3, 5))
        self.assertEqual(one, Store(10, [(0, "a", 2), (1, "a", 3), (2, "b", 4), (3, "b", 5), (6, "d", 7), (7, "e", 4),
                                         (0, "f", 8), (8, "f", 9)]))
        self.assertEqual(other, one - (0, "a", 2) - (1, "a", 3) + (0, "a", 3) + (1, "a", 2))
        self.assertEqual(tie, (4, "c", 0))

    def test_told_stores_of_all_gaps(self):
        rng = random.Random(106)
        shapes = set()
        looked = 0
        while looked < 400:
            words = some_words(rng, rng.randint(1, 5), "abc", 6)
            for letter in "abc":
                for word in words:
                    for begin, end in itertools.combinations(range(len(word) + 1), 2):
                        if (begin and word[begin - 1] != letter) or (end < len(word) and word[end] != letter):
                            continue
                        if end - begin == len(word) or slow_settles(words, word[begin:end]):
                            continue
                        looked += 1
                        shapes.add((begin > 0, end < len(word)))
                        told = told_apart(Lot(words).words(), letter, (word, begin, end))
                        self.assertEqual(told, self.slow_apart(words, letter, word, begin, end))
                        for telling in ("whether", "many"):
                            self.is_bool(True, is_apart(Lot(words), letter, telling, told))
        self.assertEqual(shapes, {(True, True), (True, False), (False, True)})

    def slow_apart(self, words, letter, word, begin, end):
        """The told stores, node by node, as the point says."""
        stretch = word[begin:end]
        last = 2 * len(stretch)
        plain, crossed = twins(Lot(words), stretch, cut(Lot(words), stretch))
        fresh = iter(range(last + 2, 40))
        first = ["x" if at == begin - 1 else next(fresh) for at in range(begin)] if begin else []
        if begin and end == len(word):
            x = first[-1] = next(fresh)
        else:
            x = last
            first = [last if node == "x" else node for node in first]
        second = []
        y = 0
        if end < len(word):
            y = 0 if begin else next(fresh)
            second = [y] + [next(fresh) for _ in word[end + 1:]]
        rows = [(first[at], one, first[at + 1]) for at, one in enumerate(word[:max(begin - 1, 0)])]
        rows += [(second[at], one, second[at + 1]) for at, one in enumerate(word[end + 1:])]
        nodes = next(fresh)
        return Store(nodes, plain.ties() + rows), Store(nodes, crossed.ties() + rows), (x, letter, y)

    def test_either_kept_up_or_apart(self):
        rng = random.Random(107)
        for _ in range(150):
            lot = Lot(some_words(rng, rng.randint(0, 5), "ab", 5))
            for letter in "abc":
                told = apart(lot, letter)
                self.assertEqual(told is None, keeps_up(lot, letter))
                for telling in ("whether", "many"):
                    self.is_bool(told is not None, is_apart(lot, letter, telling, told))

    def test_gaps_of_twelve_letters(self):
        word = "bcdefbabcdef"
        for words, letter in (([word], "a"), ([word], "b"), (["a" * 12], "a"), (["a" * 11 + "b"], "a"), (["b" + "a" * 11], "b")):
            lot = Lot(words)
            told = apart(lot, letter)
            for telling in ("whether", "many"):
                self.is_bool(True, is_apart(lot, letter, telling, told))

    def test_values_that_are_otherwise(self):
        lot = Lot(["ab"])
        one, other, tie = apart(lot, "a")
        self.is_bool(True, is_apart(lot=lot, letter="a", telling="many", value=(one, other, tie)))
        self.is_bool(True, is_apart(lot, "a", "many", (other, one, tie)))
        for telling in ("whether", "many"):
            for value in otherwise((one, other, tie)):
                good = repr(value) in [repr((one, other, (x, "a", y))) for x in range(5) for y in (0, 1)]
                self.is_bool(good, is_apart(lot, "a", telling, value))
        for value in ([one, other, tie], (one, other), (one, other, tie, tie), (one, one, tie), (one, other, (4, "b", 0)),
                      (one + tie, other + tie, tie), (one, other + tie, tie), (one + tie, other, tie),
                      (one, other.beside(Store(1)), tie), (one, other, (4, "a", 5)), (one, other, list(tie)),
                      (one, other, (True, "a", 0))):
            self.is_bool(False, is_apart(lot, "a", "whether", value))
        self.is_bool(False, is_apart(Lot(["ab", "b"]), "a", "whether", (one, other, tie)))
        self.is_bool(False, is_apart(lot, "b", "whether", (one, other, tie)))

    def test_the_tie_is_in_neither_store(self):
        lot, tie = Lot(["ab"]), (0, "a", 1)
        one, other = Store(3, [tie]), Store(3, [(1, "b", 2)])
        for telling in ("whether", "many"):
            self.is_bool(False, is_apart(lot, "a", telling, (one, other, tie)))
            self.is_bool(False, is_apart(lot, "a", telling, (other, one, tie)))
            self.is_bool(True, is_apart(lot, "a", telling, (one - tie, other, tie)))

    def test_unlike_in_many_alone(self):
        lot = Lot(["ab"])
        # With the tie there is a second way in the one, and a first and only one less in the other one.
        one = Store(4, [(0, "a", 1), (1, "b", 3), (2, "b", 3)])
        other = Store(4, [(0, "a", 1), (1, "b", 3)])
        self.is_bool(True, is_apart(lot, "a", "many", (one, other, (0, "a", 2))))
        self.is_bool(False, is_apart(lot, "a", "whether", (one, other, (0, "a", 2))))

    def test_stores_of_four_hundred_ties(self):
        lot = Lot(["ab"])
        one, other, tie = apart(lot, "a")
        more = [(x, "c", y) for x in range(20) for y in range(20)]
        for many, good in ((397, True), (398, False)):
            big, great = Store(20, one.ties() + more[:many]), Store(20, other.ties() + more[:many])
            self.is_bool(good, is_apart(lot, "a", "whether", (big, great, tie)))
        self.is_bool(False, is_apart(lot, "a", "whether", (Store(20, one.ties() + more[:397]), Store(
            20, other.ties() + more[:398]), tie)))
        self.is_bool(True, is_apart(lot, "a", "whether", (Store(20, one.ties() + more[:397]), Store(
            20, other.ties() + more[1:300]), tie)))

    def test_errors_in_sequence(self):
        for value in WRONG_LETTERS:
            self.refuses(InvalidLetter, {"value": value}, is_apart, LOT, value, None, None)
        for value in WRONG_TELLINGS:
            self.refuses(InvalidTelling, {"value": value}, is_apart, LOT, "a", value, None)


if __name__ == "__main__":
    unittest.main()
