"""Point [11] and netkeep/store.py: stores, their limits, and what is refused."""

import random
import unittest

from netkeep.errors import (
    InvalidLetter, InvalidNode, InvalidNodes, InvalidOrder, InvalidStore, InvalidTie, InvalidTies, InvalidWord,
)
from netkeep.store import Store
from support import Case, Odd, some_store, wrong_values

FULL = [(x, "a", y) for x in range(20) for y in range(20)]
WRONG_TIES = wrong_values() + [(0, "a", 3), (3, "a", 0), (-1, "a", 0), (0, "a", -1), (0, "g", 1), (0, "A", 1),
                               (0, "", 1), (False, "a", 1), (0, "a", True), ("0", "a", 1), (0, "a"), [0, "a", 1],
                               (0, None, 1), (0, ["a"], 1), ([0], "a", 1), (0, "a", 10 ** 20)]


class Made(Case):
    def setUp(self):
        self.fork = Store(3, [(1, "b", 2), (0, "a", 2), (2, "b", 2), (0, "a", 1)])

    def test_parts(self):
        self.assertEqual(self.fork.nodes, 3)
        self.assertEqual(self.fork.ties(), [(0, "a", 1), (0, "a", 2), (1, "b", 2), (2, "b", 2)])
        self.assertEqual(self.fork.letters(), "ab")
        self.assertEqual(len(self.fork), 4)
        self.assertEqual(repr(self.fork), "Store(3, [(0, 'a', 1), (0, 'a', 2), (1, 'b', 2), (2, 'b', 2)])")

    def test_without_ties(self):
        for store in (Store(2), Store(2, []), Store(2, ()), Store(nodes=2, ties=[])):
            self.assertEqual((store.nodes, store.ties(), store.letters(), len(store)), (2, [], "", 0))
            self.assertEqual(repr(store), "Store(2, [])")

    def test_letters_rise(self):
        self.assertEqual(Store(2, [(0, "f", 1), (1, "c", 1), (1, "a", 0), (0, "c", 0)]).letters(), "acf")

    def test_limits_are_class_values(self):
        self.assertEqual((Store.MOST_NODES, Store.MOST_TIES), (40, 400))

    def test_one_and_forty_nodes(self):
        self.assertEqual(Store(1, [(0, "a", 0)]).ties(), [(0, "a", 0)])
        self.assertEqual(Store(40, [(39, "f", 0)]).ties(), [(39, "f", 0)])

    def test_wrong_nodes(self):
        for value in (0, 41, -1, True, False, None, "3", "", [3], (3,), {3: 3}, 10 ** 20, Odd()):
            self.refuses(InvalidNodes, {"value": value}, Store, value)
            self.refuses(InvalidNodes, {"value": value}, Store, value, None)

    def test_ties_that_are_no_list(self):
        for value in (None, 0, True, "abc", "", {}, {(0, "a", 1): 1}, {(0, "a", 1)}, Odd(), iter([]), Store(2)):
            self.refuses(InvalidTies, {"position": None}, Store, 3, value)

    def test_first_wrong_tie(self):
        for value in WRONG_TIES:
            self.refuses(InvalidTies, {"position": 0}, Store, 3, [value])
            self.refuses(InvalidTies, {"position": 2}, Store, 3, [(0, "a", 1), (1, "a", 0), value, value])
            self.refuses(InvalidTies, {"position": 1}, Store, 3, ((0, "a", 1), value))

    def test_tie_that_stands_ahead(self):
        self.refuses(InvalidTies, {"position": 2}, Store, 3, [(0, "a", 1), (0, "b", 1), (0, "a", 1), None])
        self.refuses(InvalidTies, {"position": 1}, Store, 3, [(0, "a", 1), (0, "a", 1)])

    def test_nodes_come_ahead_of_ties(self):
        self.refuses(InvalidNodes, {"value": 0}, Store, 0, [None])

    def test_four_hundred_ties_and_one_more(self):
        self.assertEqual(len(Store(20, FULL)), 400)
        self.too_many("ties", 400, Store, 20, FULL + [(0, "b", 0)])
        self.refuses(InvalidTies, {"position": 401}, Store, 20, FULL + [(0, "b", 0), (0, "b", 20)])
        self.refuses(InvalidTies, {"position": 400}, Store, 20, FULL + [(0, "a", 0)])

    def test_what_is_passed_is_copied(self):
        ties = [(1, "a", 0), (0, "a", 1)]
        store = Store(2, ties)
        self.assertEqual(ties, [(1, "a", 0), (0, "a", 1)])
        ties.append((0, "b", 0))
        ties[0] = None
        self.assertEqual(store.ties(), [(0, "a", 1), (1, "a", 0)])

    def test_what_is_told_is_new(self):
        store = Store(2, [(0, "a", 1)])
        for told in (store.ties(), store.goals(0, "a"), store.sources(1, "a")):
            told.append(5)
        self.assertEqual((store.ties(), store.goals(0, "a"), store.sources(1, "a")), ([(0, "a", 1)], [1], [0]))
        self.assertIsNot(store.ties(), store.ties())

    def test_not_iterated_over(self):
        with self.assertRaises(TypeError):
            iter(self.fork)


class Looked(Case):
    def setUp(self):
        self.store = Store(4, [(3, "a", 0), (0, "a", 3), (0, "a", 1), (2, "a", 1), (0, "b", 2), (1, "a", 1)])

    def test_goals_and_sources(self):
        self.assertEqual(self.store.goals(0, "a"), [1, 3])
        self.assertEqual(self.store.goals(0, "b"), [2])
        self.assertEqual(self.store.goals(2, "b"), [])
        self.assertEqual(self.store.sources(1, "a"), [0, 1, 2])
        self.assertEqual(self.store.sources(node=0, letter="a"), [3])
        self.assertEqual(self.store.sources(0, "f"), [])

    def test_goals_and_sources_against_ties(self):
        rng = random.Random(11)
        for _ in range(30):
            store = some_store(rng, rng.randint(1, 7), rng.randint(0, 30), "abc")
            for node in range(store.nodes):
                for letter in "abcd":
                    ties = store.ties()
                    self.assertEqual(store.goals(node, letter), [y for x, sign, y in ties if (x, sign) == (node, letter)])
                    self.assertEqual(store.sources(node, letter),
                                     sorted(x for x, sign, y in ties if (y, sign) == (node, letter)))

    def test_wrong_nodes_and_letters(self):
        for call in (self.store.goals, self.store.sources):
            for value in (4, -1, True, False, None, "0", [0], (0,), Odd()):
                self.refuses(InvalidNode, {"value": value}, call, value, "a")
                self.refuses(InvalidNode, {"value": value}, call, value, None)
            for value in ("", "g", "A", "ab", "abcdef", None, 0, True, ["a"], Odd()):
                self.refuses(InvalidLetter, {"value": value}, call, 0, value)

    def test_has(self):
        self.is_bool(True, self.store.has((0, "a", 3)))
        self.is_bool(False, self.store.has(tie=(0, "c", 3)))
        for value in WRONG_TIES:
            if value not in ((0, "a", 3), (3, "a", 0)):
                self.refuses(InvalidTie, {"value": value}, self.store.has, value)

    def test_in_takes_any_value(self):
        self.is_bool(True, (0, "a", 3) in self.store)
        self.is_bool(False, (0, "c", 3) in self.store)
        for value in wrong_values() + [(False, "a", 3), (0, "a", True), (True, "a", True), (0, "a", 4)]:
            self.is_bool(False, value in self.store)

    def test_equal(self):
        same = Store(4, tuple(self.store.ties()[::-1]))
        self.assertTrue(self.store == same)
        self.assertFalse(self.store != same)
        self.assertFalse(self.store == Store(5, self.store.ties()))
        self.assertFalse(self.store == self.store - (1, "a", 1))
        for value in wrong_values() + [self.store.ties(), repr(self.store)]:
            self.assertFalse(self.store == value)
            self.assertTrue(self.store != value)


class Changed(Case):
    def setUp(self):
        self.ties = [(0, "a", 1), (1, "b", 2)]
        self.store = Store(3, self.ties)

    def tearDown(self):
        self.assertEqual((self.store.nodes, self.store.ties()), (3, self.ties))

    def test_put_done_and_idle(self):
        behind, done = self.store.put((0, "c", 0))
        self.assertEqual(behind.ties(), [(0, "a", 1), (0, "c", 0), (1, "b", 2)])
        self.is_bool(True, done)
        result = self.store.put(tie=(0, "a", 1))
        self.assertIs(type(result), tuple)
        self.assertEqual(result[0], self.store)
        self.is_bool(False, result[1])

    def test_strike_done_and_idle(self):
        behind, done = self.store.strike((0, "a", 1))
        self.assertEqual(behind.ties(), [(1, "b", 2)])
        self.is_bool(True, done)
        result = self.store.strike(tie=(1, "a", 0))
        self.assertIs(type(result), tuple)
        self.assertEqual(result[0], self.store)
        self.is_bool(False, result[1])

    def test_signs(self):
        self.assertEqual((self.store + (2, "f", 2)).ties(), self.ties + [(2, "f", 2)])
        self.assertEqual(self.store + (0, "a", 1), self.store)
        self.assertEqual((self.store - (0, "a", 1)).ties(), [(1, "b", 2)])
        self.assertEqual(self.store - (0, "b", 1), self.store)
        self.assertEqual((~self.store).ties(), [(1, "a", 0), (2, "b", 1)])
        self.assertEqual(~~self.store, self.store)
        self.assertEqual(~Store(2), Store(2))

    def test_wrong_ties(self):
        for value in WRONG_TIES:
            self.refuses(InvalidTie, {"value": value}, self.store.put, value)
            self.refuses(InvalidTie, {"value": value}, self.store.strike, value)
            self.refuses(InvalidTie, {"value": value}, lambda: self.store + value)
            self.refuses(InvalidTie, {"value": value}, lambda: self.store - value)
        for value in (Store(3), [(0, "a", 1)], "0a1"):
            self.refuses(InvalidTie, {"value": value}, lambda: self.store + value)
            self.refuses(InvalidTie, {"value": value}, lambda: self.store - value)

    def test_full_store(self):
        full = Store(20, FULL)
        self.too_many("ties", 400, full.put, (0, "b", 0))
        self.too_many("ties", 400, lambda: full + (0, "b", 0))
        self.refuses(InvalidTie, {}, full.put, (0, "b", 20))
        self.assertEqual(full.put((0, "a", 0)), (full, False))
        self.assertEqual(full + (0, "a", 0), full)
        self.assertEqual(len(full - (0, "a", 0)), 399)
        self.assertEqual(len((full - (0, "a", 0)) + (0, "b", 0)), 400)
        self.assertEqual(len(~full), 400)

    def test_renumbered(self):
        self.assertEqual(self.store.renumbered([2, 0, 1]).ties(), [(1, "a", 2), (2, "b", 0)])
        self.assertEqual(self.store.renumbered(order=(0, 1, 2)), self.store)
        rng = random.Random(12)
        for _ in range(30):
            store = some_store(rng, rng.randint(1, 6), rng.randint(0, 20), "ab")
            order = rng.sample(range(store.nodes), store.nodes)
            other = store.renumbered(order)
            self.assertEqual(sorted((order[i], sign, order[j]) for i, sign, j in other.ties()), store.ties())
            self.assertEqual(other.nodes, store.nodes)

    def test_wrong_orders(self):
        for value in (None, 0, True, "012", [0, 1], [0, 1, 2, 3], [0, 1, 1], [0, 1, 3], [-1, 0, 1], [False, 1, 2],
                      [0, True, 2], [0, "1", 2], [0, None, 1], [[0], [1], [2]], {0: 0, 1: 1, 2: 2}, (), Odd(),
                      [Odd(), 1, 2]):
            self.refuses(InvalidOrder, {"value": value}, self.store.renumbered, value)
        order = [2, 1, 0]
        self.store.renumbered(order)
        self.assertEqual(order, [2, 1, 0])

    def test_beside(self):
        other = Store(2, [(0, "f", 1), (1, "a", 1)])
        both = self.store.beside(other)
        self.assertEqual((both.nodes, both.ties()), (5, self.ties + [(3, "f", 4), (4, "a", 4)]))
        self.assertEqual(other.beside(other=self.store).ties(), [(0, "f", 1), (1, "a", 1), (2, "a", 3), (3, "b", 4)])
        self.assertEqual(self.store.beside(self.store).nodes, 6)

    def test_beside_what_is_no_store(self):
        for value in wrong_values() + [Store, [Store(1)], repr(Store(1))]:
            self.refuses(InvalidStore, {"value": value}, self.store.beside, value)

    def test_beside_limits(self):
        self.assertEqual(Store(20).beside(Store(20)).nodes, 40)
        self.too_many("nodes", 40, Store(20).beside, Store(21))
        half = Store(20, FULL[:200])
        self.assertEqual(len(half.beside(half)), 400)
        self.too_many("ties", 400, half.beside, Store(20, FULL[:201]))
        self.too_many("nodes", 40, Store(20, FULL).beside, Store(21, FULL))

    def test_stays_behind_errors(self):
        for call in (self.store.put, self.store.strike, self.store.has, self.store.renumbered, self.store.beside):
            with self.assertRaises(ValueError):
                call(None)
        self.tearDown()


class Rows(Case):
    def test_rows(self):
        self.assertEqual(Store.row("a"), Store(2, [(0, "a", 1)]))
        self.assertEqual(Store.row(word="aba"), Store(4, [(0, "a", 1), (1, "b", 2), (2, "a", 3)]))
        self.assertEqual(Store.row("abcdefabcdef").nodes, 13)
        self.assertEqual(len(Store.row("aaaaaaaaaaaa")), 12)
        self.assertEqual(Store(1).row("ab"), Store.row("ab"))

    def test_wrong_words(self):
        for value in wrong_values() + ["aaaaaaaaaaaaa", "aB", "g"]:
            self.refuses(InvalidWord, {"value": value}, Store.row, value)


if __name__ == "__main__":
    unittest.main()
