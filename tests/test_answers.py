"""Points [12], [13] and [14], and netkeep/answers.py: answers, relations and matrices."""

import random
import unittest

from netkeep.answers import (
    answer, back, count_product, counts, is_matrix, is_relation, is_walk, is_within, many_walks, pairs, product, unit,
    walk,
)
from netkeep.errors import (
    InvalidMatrix, InvalidNode, InvalidNodes, InvalidRelation, InvalidTelling, InvalidWord,
)
from netkeep.store import Store
from support import Case, Odd, Same, all_walks, some_store, wrong_values

WRONG_WORDS = wrong_values() + ["aaaaaaaaaaaaa", "g", "aB"]
WRONG_NODES = [0, 41, -1, True, False, None, "3", [3], Odd()]
WRONG_ENDS = [3, -1, True, False, None, "0", [0], (0,), Odd()]
WRONG_TELLINGS = ["", "Whether", "how", None, True, 0, [], ["many"], ("many",), Odd(), Same()]
FORK = Store(3, [(0, "a", 1), (0, "a", 2), (1, "b", 2), (2, "b", 2)])


class Answers(Case):
    def test_ordinary(self):
        self.assertEqual(pairs(FORK, "ab"), [(0, 2)])
        self.assertEqual(counts(FORK, "ab"), [[0, 0, 2], [0, 0, 0], [0, 0, 0]])
        self.assertEqual(pairs(FORK, "a"), [(0, 1), (0, 2)])
        self.assertEqual(counts(FORK, "a"), [[0, 1, 1], [0, 0, 0], [0, 0, 0]])
        self.assertEqual(pairs(store=FORK, word="c"), [])
        self.assertEqual(counts(store=FORK, word="c"), [[0] * 3] * 3)

    def test_both_tellings(self):
        self.assertEqual(answer(FORK, "ab", "whether"), [(0, 2)])
        self.assertEqual(answer(store=FORK, word="ab", telling="many"), [[0, 0, 2], [0, 0, 0], [0, 0, 0]])

    def test_against_all_walks(self):
        rng = random.Random(21)
        for _ in range(60):
            store = some_store(rng, rng.randint(1, 5), rng.randint(0, 12), "abc")
            word = "".join(rng.choice("abc") for _ in range(rng.randint(1, 4)))
            walks = all_walks(store.nodes, set(store.ties()), word)
            self.assertEqual(pairs(store, word), sorted({(one[0], one[-1]) for one in walks}))
            for x in range(store.nodes):
                for y in range(store.nodes):
                    some = sorted(one for one in walks if (one[0], one[-1]) == (x, y))
                    self.assertEqual(counts(store, word)[x][y], len(some))
                    self.assertEqual(many_walks(store, word, x, y), len(some))
                    self.assertEqual(walk(store, word, x, y), some[0] if some else None)
            for one in walks:
                self.is_bool(True, is_walk(store, word, one))
                self.is_bool(True, is_walk(store, word, tuple(one)))

    def test_twelve_letters_and_forty_nodes(self):
        store = Store(40, [(x, "a", y) for x in range(20) for y in range(20)])
        word = "a" * 12
        self.assertEqual(len(pairs(store, word)), 400)
        self.assertEqual(many_walks(store, word, 19, 0), 20 ** 11)
        self.assertEqual(counts(store, word)[0][19], 20 ** 11)
        self.assertEqual(walk(store, word, 19, 19), [19] + [0] * 11 + [19])
        self.assertEqual(walk(store, word, 19, 20), None)
        self.is_bool(True, is_walk(store, word, list(range(13))))
        self.assertEqual(pairs(store, "a" * 11 + "f"), [])

    def test_wrong_words(self):
        for value in WRONG_WORDS:
            self.refuses(InvalidWord, {"value": value}, pairs, FORK, value)
            self.refuses(InvalidWord, {"value": value}, counts, FORK, value)
            self.refuses(InvalidWord, {"value": value}, answer, FORK, value, None)
            self.refuses(InvalidWord, {"value": value}, walk, FORK, value, None, None)
            self.refuses(InvalidWord, {"value": value}, is_walk, FORK, value, None)
            self.refuses(InvalidWord, {"value": value}, many_walks, FORK, value, None, None)

    def test_wrong_tellings(self):
        for value in WRONG_TELLINGS:
            self.refuses(InvalidTelling, {"value": value}, answer, FORK, "a", value)

    def test_wrong_ends(self):
        for call in (walk, many_walks):
            for value in WRONG_ENDS:
                self.refuses(InvalidNode, {"value": value}, call, FORK, "a", value, None)
                self.refuses(InvalidNode, {"value": value}, call, FORK, "a", 0, value)

    def test_walk_is_the_least(self):
        store = Store(4, [(0, "a", 3), (0, "a", 1), (0, "a", 2), (3, "a", 0), (2, "a", 3), (1, "a", 2)])
        self.assertEqual(walk(store, "aa", 0, 3), [0, 2, 3])
        self.assertEqual(walk(store, "aaa", 0, 3), [0, 1, 2, 3])
        self.assertEqual(walk(store=store, word="a", start=1, end=1), None)
        self.assertEqual(many_walks(store=store, word="aa", start=0, end=0), 1)

    def test_is_walk_of_any_value(self):
        self.is_bool(True, is_walk(FORK, "ab", [0, 1, 2]))
        self.is_bool(True, is_walk(store=FORK, word="ab", value=(0, 2, 2)))
        for value in wrong_values() + [[0, 1], [0, 1, 2, 2], [0, 1, 1], [0, 2, 3], [0, -1, 2], [False, 1, 2],
                                       [0, True, 2], ["0", 1, 2], [[0], 1, 2], [Odd(), 1, 2], "012", [1, 2, 2]]:
            self.is_bool(False, is_walk(FORK, "ab", value))

    def test_nothing_that_is_told_is_shared(self):
        matrix = counts(FORK, "c")
        matrix[0][0] = 5
        self.assertEqual(matrix[1], [0, 0, 0])
        self.assertEqual(counts(FORK, "c"), [[0, 0, 0], [0, 0, 0], [0, 0, 0]])


class Relations(Case):
    def test_is_relation(self):
        for value in ([], (), [(0, 0)], [(0, 1), (1, 0)], ((0, 1), (2, 2))):
            self.is_bool(True, is_relation(3, value))
        for value in (None, True, "ab", {}, {(0, 1)}, [(1, 0), (0, 1)], [(0, 1), (0, 1)], [(0, 3)], [(-1, 0)], [[0, 1]],
                      [(0, 1, 2)], [(0,)], [(True, 0)], [(0, True)], [("0", 1)], [None], [(0, None)], [(0, [1])], Odd()):
            self.is_bool(False, is_relation(3, value))

    def test_is_matrix(self):
        for value in ([[0, 1], [2, 3]], ((0, 10 ** 20), [0, 0]), [(0, 0), (0, 0)]):
            self.is_bool(True, is_matrix(2, value))
        for value in (None, [], [[0, 0]], [[0, 0], [0]], [[0, 0], [0, 0, 0]], [[0, 0], [0, 0], [0, 0]], [[0, 0], [0, -1]],
                      [[0, 0], [0, True]], [[False, 0], [0, 0]], [[0, 0], "00"], [[0, 0], [0, None]], [[0, 0], [0, [0]]],
                      {0: [0, 0], 1: [0, 0]}, "0000", Odd(), [Odd(), [0, 0]]):
            self.is_bool(False, is_matrix(2, value))
        self.is_bool(True, is_matrix(1, [[0]]))

    def test_wrong_nodes_come_first(self):
        for value in WRONG_NODES:
            for call in (is_relation, is_matrix, unit):
                self.refuses(InvalidNodes, {"value": value}, call, value, None)
            for call in (product, back, is_within, count_product):
                self.refuses(InvalidNodes, {"value": value}, call, value, None, None)

    def test_wrong_relations(self):
        for call in (product, back, is_within):
            for value in ([(0, 3)], [(1, 0), (0, 1)], None, [[0, 1]], [(True, 0)], [(0, 1), (0, 1)], "ab"):
                self.refuses(InvalidRelation, {"value": value}, call, 3, value, None)
                self.refuses(InvalidRelation, {"value": value}, call, 3, [(0, 1)], value)

    def test_wrong_matrices(self):
        for value in ([[0]], None, [[0, 0], [0, True]], [[0, 0], [0, -1]], [(0, 0)], []):
            self.refuses(InvalidMatrix, {"value": value}, count_product, 2, value, None)
            self.refuses(InvalidMatrix, {"value": value}, count_product, 2, [[0, 0], [0, 0]], value)

    def test_product(self):
        self.assertEqual(product(3, [(0, 1), (0, 2)], [(1, 2), (2, 2)]), [(0, 2)])
        self.assertEqual(product(3, ((0, 1),), ()), [])
        self.assertEqual(product(nodes=3, one=[(2, 0)], other=[(0, 1), (0, 2)]), [(2, 1), (2, 2)])

    def test_back(self):
        self.assertEqual(back(3, [(0, 2)], [(1, 2), (2, 2)]), [(0, 0), (0, 1), (0, 2), (1, 0), (2, 0)])
        self.assertEqual(back(nodes=2, one=[], other=[]), [(0, 0), (0, 1), (1, 0), (1, 1)])
        self.assertEqual(back(2, (), ((0, 0), (1, 1))), [])
        self.assertEqual(back(2, [(0, 0), (0, 1)], [(0, 0), (0, 1)]), [(0, 0), (0, 1), (1, 1)])

    def test_is_within(self):
        self.is_bool(True, is_within(3, [], []))
        self.is_bool(True, is_within(3, [(0, 1)], ((0, 1), (2, 2))))
        self.is_bool(False, is_within(nodes=3, one=[(0, 1), (2, 2)], other=[(0, 1)]))

    def test_count_product(self):
        self.assertEqual(count_product(2, [[1, 2], [3, 4]], ((5, 6), [7, 8])), [[19, 22], [43, 50]])
        self.assertEqual(count_product(nodes=1, one=[[3]], other=[[4]]), [[12]])

    def test_unit(self):
        self.assertEqual(unit(3, "whether"), [(0, 0), (1, 1), (2, 2)])
        self.assertEqual(unit(nodes=2, telling="many"), [[1, 0], [0, 1]])
        self.assertEqual(len(unit(40, "many")), 40)
        for value in WRONG_TELLINGS:
            self.refuses(InvalidTelling, {"value": value}, unit, 3, value)

    def test_facts(self):
        rng = random.Random(22)
        for _ in range(60):
            n = rng.randint(1, 4)
            every = [(x, y) for x in range(n) for y in range(n)]
            one, other = [sorted(rng.sample(every, rng.randint(0, len(every)))) for _ in range(2)]
            self.assertEqual(product(n, one, other),
                             sorted({(x, y) for x, z in one for w, y in other if z == w}))
            slow = [(x, w) for x, w in every if all((x, z) in one for v, z in other if v == w)]
            self.assertEqual(back(n, one, other), slow)
            self.is_bool(True, is_within(n, product(n, back(n, one, other), other), one))
            some = sorted(rng.sample(every, rng.randint(0, len(every))))
            fits = set(product(n, some, other)) <= set(one)
            self.is_bool(fits, is_within(n, some, back(n, one, other)))
            self.is_bool(set(one) <= set(other), is_within(n, one, other))
            store = some_store(rng, n, rng.randint(0, 8), "ab")
            self.assertEqual(pairs(store, "aba"), product(n, pairs(store, "ab"), pairs(store, "a")))
            self.assertEqual(counts(store, "aba"), count_product(n, counts(store, "a"), counts(store, "ba")))
            self.assertEqual(product(n, unit(n, "whether"), one), one)

    def test_nothing_passed_is_changed(self):
        one, other = [(0, 1), (1, 1)], [(0, 0), (1, 0)]
        product(2, one, other), back(2, one, other), is_within(2, one, other)
        self.assertEqual((one, other), ([(0, 1), (1, 1)], [(0, 0), (1, 0)]))
        matrix = [[1, 2], [3, 4]]
        told = count_product(2, matrix, matrix)
        told[0][0] = None
        self.assertEqual(matrix, [[1, 2], [3, 4]])

    def test_limits(self):
        every = [(x, y) for x in range(40) for y in range(40)]
        self.assertEqual(product(40, every, every), every)
        self.assertEqual(back(40, every, every), every)
        matrix = [[10 ** 9] * 40 for _ in range(40)]
        self.assertEqual(count_product(40, matrix, matrix)[39][39], 40 * 10 ** 18)


if __name__ == "__main__":
    unittest.main()
