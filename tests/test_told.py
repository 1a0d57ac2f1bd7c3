"""Point [44] and netkeep/told.py: plans at work, what they tell, and count papers."""

import random
import unittest
from fractions import Fraction
from math import gcd

from netkeep.answers import answer
from netkeep.errors import InvalidKept, InvalidNodes, InvalidTelling, InvalidWord, NoMatrices, NotSettled, TooMany
from netkeep.lots import Lot, kept_of
from netkeep.plans import plan
from netkeep.store import Store
from netkeep.told import count_paper, is_count_paper, tables, told
from support import Case, Odd, otherwise, slow_settles, some_store, some_words, wrong_values

LOT = Lot(["bc", "b", "ab"])
PATH = Store(4, [(0, "a", 1), (1, "b", 2), (2, "c", 3)])
LONE = {"b": [[1]], "ab": [[2]], "bc": [[3]]}
SETTLED = [(["ab", "b", "bc"], "abc"), (["ab", "b", "bcd", "d", "de"], "abcde"), (["abc", "b", "c", "bcd"], "abcd"),
           (["a", "bb"], "abba"), (["aab", "b", "bc"], "aabc")]


def slow_table(nodes, steps, kept):
    """The relations of a plan at work, as sets, pair by pair."""
    every = range(nodes)
    found = [{(x, x) for x in every}]
    for begin, word, end in steps:
        ahead, used = found[-1], set(kept[word])
        if begin < end:
            found.append({(x, y) for x, z in ahead for w, y in used if z == w})
        else:
            found.append({(x, w) for x in every for w in every
                          if all((x, z) in ahead for v, z in used if v == w)})
    return [sorted(one) for one in found]


def slow_last_rows(nodes, steps, kept, start):
    """The last row of a count paper, and whether all have the same one; (None, True) without one.

    All rows behind the first one are unknowns of one system.
    """
    unknowns = nodes * len(steps)
    lines = []
    for at, (begin, word, end) in enumerate(steps):
        more, less = (at + 1, at) if begin < end else (at, at + 1)
        for y in range(nodes):
            line = [Fraction(0)] * (unknowns + 1)
            for row, numbers, sign in ((more, [int(z == y) for z in range(nodes)], 1),
                                       (less, [kept[word][z][y] for z in range(nodes)], -1)):
                for z, number in enumerate(numbers):
                    if row:
                        line[(row - 1) * nodes + z] += sign * number
                    else:
                        line[-1] -= sign * number * int(z == start)
            lines.append(line)
    solved = {}
    for column in range(unknowns):
        lead = next((line for line in lines if line[column]), None)
        if lead is not None:
            lines = [line for line in lines if line is not lead]
            lead = [part / lead[column] for part in lead]
            take = lambda line: [one - line[column] * other for one, other in zip(line, lead)]
            lines = [take(line) for line in lines]
            solved = {one: take(solved[one]) for one in solved}
            solved[column] = lead
    if any(line[-1] for line in lines):
        return None, True
    last = range(unknowns - nodes, unknowns)
    alike = all(column in solved and not any(solved[column][other] for other in range(unknowns) if other != column)
                for column in last)
    return [solved[column][-1] if column in solved else Fraction(0) for column in last], alike


def slow_told(nodes, steps, kept):
    """What count papers tell; None if they do not tell one matrix of counts."""
    rows = [slow_last_rows(nodes, steps, kept, start) for start in range(nodes)]
    if any(row is None or not alike for row, alike in rows):
        return None
    if any(number.denominator != 1 or number < 0 for row, _ in rows for number in row):
        return None
    return [[int(number) for number in row] for row, _ in rows]


def slow_is_paper(nodes, steps, kept, value):
    """Whether a value is a count paper, number by number."""
    lists = (list, tuple)
    if type(value) not in lists or len(value) != len(steps) + 1:
        return False
    for grid in value:
        if type(grid) not in lists or len(grid) != nodes:
            return False
        for line in grid:
            if type(line) not in lists or len(line) != nodes:
                return False
            for part in line:
                if type(part) is not tuple or [type(one) for one in part] != [int, int] or part[1] < 1:
                    return False
                if gcd(*part) != 1:
                    return False
    grids = [[[Fraction(*part) for part in line] for line in grid] for grid in value]
    every = range(nodes)
    if grids[0] != [[int(x == y) for y in every] for x in every]:
        return False
    for at, (begin, word, end) in enumerate(steps):
        one, other = (grids[at], grids[at + 1]) if begin < end else (grids[at + 1], grids[at])
        if [[sum(one[x][z] * kept[word][z][y] for z in every) for y in every] for x in every] != other:
            return False
    return True


class Told(Case):
    def test_ordinary(self):
        for telling in ("whether", "many"):
            kept = kept_of(PATH, LOT, telling)
            self.assertEqual(told(LOT, "abc", 4, kept, telling), answer(PATH, "abc", telling))
            self.assertEqual(told(lot=LOT, word="ab", nodes=4, kept=kept, telling=telling), kept["ab"])
        kept = kept_of(PATH, LOT, "whether")
        self.assertEqual(tables(LOT, "abc", 4, kept)[0], [(0, 0), (1, 1), (2, 2), (3, 3)])
        self.assertEqual(tables(LOT, "abc", 4, kept)[1], [(0, 2)])
        self.assertEqual(tables(lot=LOT, word="abc", nodes=4, kept=kept)[3], [(0, 3)])
        self.assertEqual(len(tables(LOT, "abc", 4, kept)), 4)

    def test_stores(self):
        rng = random.Random(81)
        looked = 0
        while looked < 150:
            words = some_words(rng, rng.randint(1, 6), "ab", 4)
            word = some_words(rng, 1, "ab", 6)[0]
            if not slow_settles(words, word):
                continue
            looked += 1
            lot = Lot(words)
            store = some_store(rng, rng.randint(1, 5), rng.randint(0, 14), "ab")
            for telling in ("whether", "many"):
                kept = kept_of(store, lot, telling)
                self.assertEqual(told(lot, word, store.nodes, kept, telling), answer(store, word, telling))
            kept = kept_of(store, lot, "whether")
            self.assertEqual(tables(lot, word, store.nodes, kept), slow_table(store.nodes, plan(lot, word), kept))
            kept = kept_of(store, lot, "many")
            paper = count_paper(lot, word, store.nodes, kept)
            self.assertTrue(slow_is_paper(store.nodes, plan(lot, word), kept, paper))
            self.is_bool(True, is_count_paper(lot, word, store.nodes, kept, paper))

    def test_kept_answers_of_no_store(self):
        rng = random.Random(82)
        kinds = {"told": 0, "none": 0, "unlike": 0}
        for _ in range(400):
            words, word = rng.choice(SETTLED)
            nodes = rng.randint(1, 3)
            kept = {one: [[rng.choice((0, 0, 1, 1, 2, 3)) for _ in range(nodes)] for _ in range(nodes)] for one in words}
            self.look_at(Lot(words), word, nodes, kept, kinds)
        self.assertGreater(min(kinds.values()), 20, kinds)

    def look_at(self, lot, word, nodes, kept, kinds):
        steps = plan(lot, word)
        expected = slow_told(nodes, steps, kept)
        paper = count_paper(lot, word, nodes, kept)
        rows = [slow_last_rows(nodes, steps, kept, start) for start in range(nodes)]
        self.assertEqual(paper is None, any(row is None for row, _ in rows))
        self.is_bool(paper is not None, is_count_paper(lot, word, nodes, kept, paper))
        if paper is not None:
            self.assertTrue(slow_is_paper(nodes, steps, kept, paper))
        kinds["none" if paper is None else "unlike" if expected is None else "told"] += 1
        if expected is None:
            self.refuses(NoMatrices, {}, told, lot, word, nodes, kept, "many")
        else:
            self.assertEqual(told(lot, word, nodes, kept, "many"), expected)
        whether = {one: [(x, y) for x in range(nodes) for y in range(nodes) if kept[one][x][y]] for one in kept}
        self.assertEqual(tables(lot, word, nodes, whether), slow_table(nodes, steps, whether))
        self.assertEqual(told(lot, word, nodes, whether, "whether"), slow_table(nodes, steps, whether)[-1])

    def test_back_over_nothing_tells_all(self):
        every = [(0, 0), (0, 1), (1, 0), (1, 1)]
        self.assertEqual(tables(LOT, "abc", 2, {"ab": [], "b": [], "bc": [(0, 0)]})[1:], [[], every, [(0, 0), (1, 0)]])
        self.assertEqual(tables(LOT, "abc", 2, {"ab": [], "b": [(0, 1)], "bc": every})[2], [(0, 1), (1, 1)])

    def test_one_node(self):
        self.assertEqual(told(LOT, "abc", 1, LONE, "many"), [[6]])
        self.assertEqual(count_paper(LOT, "abc", 1, LONE), [[[(1, 1)]], [[(2, 1)]], [[(2, 1)]], [[(6, 1)]]])
        halves = {"b": [[4]], "ab": [[2]], "bc": [[3]]}
        self.assertEqual(count_paper(LOT, "abc", 1, halves), [[[(1, 1)]], [[(2, 1)]], [[(1, 2)]], [[(3, 2)]]])
        self.refuses(NoMatrices, {}, told, LOT, "abc", 1, halves, "many")
        self.assertIsNone(count_paper(LOT, "abc", 1, {**LONE, "b": [[0]]}))
        self.refuses(NoMatrices, {}, told, LOT, "abc", 1, {**LONE, "b": [[0]]}, "many")
        # With nothing behind the first step each number would do behind the second one.
        self.refuses(NoMatrices, {}, told, LOT, "abc", 1, {"b": [[0]], "ab": [[0]], "bc": [[3]]}, "many")
        self.assertEqual(told(LOT, "abc", 1, {"b": [[0]], "ab": [[0]], "bc": [[0]]}, "many"), [[0]])

    def test_numbers_below_0(self):
        # What goes back has a number below 0 in it, once such that the last matrix has none, once such that it has.
        lot = Lot(["ab", "b", "bc"])
        kept = {"b": [[1, 1], [0, 1]], "ab": [[1, 0], [0, 1]], "bc": [[1, 1], [0, 1]]}
        paper = count_paper(lot, "abc", 2, kept)
        self.assertEqual(paper[2], [[(1, 1), (-1, 1)], [(0, 1), (1, 1)]])
        self.assertEqual(told(lot, "abc", 2, kept, "many"), [[1, 0], [0, 1]])
        self.refuses(NoMatrices, {}, told, lot, "abc", 2, {**kept, "bc": [[1, 0], [0, 1]]}, "many")

    def test_great_numbers(self):
        great = {"b": [[10 ** 29 + 7]], "ab": [[(10 ** 29 + 7) * 5]], "bc": [[10 ** 29 + 3]]}
        self.assertEqual(told(LOT, "abc", 1, great, "many"), [[5 * (10 ** 29 + 3)]])

    def test_tuples(self):
        whether = {"b": ((1, 2),), "ab": ((0, 2),), "bc": ((1, 3),)}
        self.assertEqual(told(LOT, "abc", 4, whether, "whether"), [(0, 3)])
        self.assertEqual(told(LOT, "ab", 4, whether, "whether"), [(0, 2)])
        self.assertIs(type(tables(LOT, "ab", 4, whether)[1]), list)
        kept = kept_of(PATH, LOT, "many")
        many = {word: tuple(tuple(line) for line in kept[word]) for word in kept}
        self.assertEqual(told(LOT, "abc", 4, many, "many"), answer(PATH, "abc", "many"))
        self.assertEqual(count_paper(LOT, "abc", 4, many), count_paper(LOT, "abc", 4, kept))
        self.assertEqual(repr(told(LOT, "ab", 4, many, "many")), repr(kept["ab"]))


class Limits(Case):
    def test_more_than_eight_nodes(self):
        for nodes, call in ((8, None), (9, self.too_many)):
            kept = kept_of(Store(nodes, [(0, "a", 1), (1, "b", 2), (2, "c", 3)]), LOT, "many")
            if call is None:
                self.assertEqual(told(LOT, "abc", nodes, kept, "many")[0], [0, 0, 0, 1] + [0] * (nodes - 4))
                self.assertEqual(len(count_paper(LOT, "abc", nodes, kept)), 4)
            else:
                call("nodes", 8, told, LOT, "abc", nodes, kept, "many")
                call("nodes", 8, count_paper, LOT, "abc", nodes, kept)
                self.refuses(NotSettled, {"value": "ca"}, told, LOT, "ca", nodes, kept, "many")

    def test_more_than_eight_nodes_without_a_step_back(self):
        rng = random.Random(83)
        store = some_store(rng, 40, 400, "ab")
        lot = Lot(["ab", "a", "bb"])
        kept = kept_of(store, lot, "many")
        word = "ab" * 3 + "bb"
        self.assertEqual(told(lot, "aab", 40, kept, "many"), answer(store, "aab", "many"))
        self.assertEqual(told(lot, word, 40, kept, "many"), answer(store, word, "many"))
        paper = count_paper(lot, word, 40, kept)
        self.assertEqual([[part[0] for part in line] for line in paper[-1]], answer(store, word, "many"))
        self.is_bool(True, is_count_paper(lot, word, 40, kept, paper))
        whether = kept_of(store, lot, "whether")
        self.assertEqual(told(lot, word, 40, whether, "whether"), answer(store, word, "whether"))

    def test_forty_nodes_with_a_step_back(self):
        store = Store(40, [(x, "abc"[x % 3], x + 1) for x in range(39)])
        whether = kept_of(store, LOT, "whether")
        self.assertEqual(told(LOT, "abc", 40, whether, "whether"), answer(store, "abc", "whether"))
        kept = kept_of(store, LOT, "many")
        unit = [[(int(x == y), 1) for y in range(40)] for x in range(40)]
        grids = [[[(number, 1) for number in line] for line in answer(store, word, "many")] for word in ("ab", "a", "abc")]
        self.is_bool(True, is_count_paper(LOT, "abc", 40, kept, [unit] + grids))
        grids[1][3][4] = (1, 2)
        self.is_bool(False, is_count_paper(LOT, "abc", 40, kept, [unit] + grids))

    def test_eight_nodes_and_twelve_letters(self):
        rng = random.Random(84)
        store = some_store(rng, 8, 40, "ab")
        lot = Lot(["a" * 5, "a" * 8, "ab", "abb"])
        for word in ("a" * 12, "a", "b", "ab" * 6):
            kept = kept_of(store, lot, "many")
            if slow_settles(lot.words(), word):
                self.assertEqual(told(lot, word, 8, kept, "many"), answer(store, word, "many"))
                paper = count_paper(lot, word, 8, kept)
                self.is_bool(True, is_count_paper(lot, word, 8, kept, paper))
                self.assertEqual(len(paper), len(plan(lot, word)) + 1)


class Papers(Case):
    def test_papers_that_are_otherwise(self):
        kept = {"ab": [[2, 0], [1, 1]], "b": [[2, 2], [0, 1]], "bc": [[1, 0], [0, 1]]}
        steps = plan(LOT, "abc")
        paper = count_paper(LOT, "abc", 2, kept)
        self.assertEqual(paper[2], [[(1, 1), (-2, 1)], [(1, 2), (0, 1)]])
        for value in otherwise(paper):
            self.is_bool(slow_is_paper(2, steps, kept, value), is_count_paper(LOT, "abc", 2, kept, value))
        self.is_bool(True, is_count_paper(lot=LOT, word="abc", nodes=2, kept=kept, value=tuple(
            tuple(tuple(line) for line in grid) for grid in paper)))
        self.is_bool(False, is_count_paper(LOT, "abc", 2, kept, [[[list(part) for part in line] for line in grid]
                                                                  for grid in paper]))

    def test_lowest_terms(self):
        halves = {"b": [[4]], "ab": [[2]], "bc": [[3]]}
        for value, fits in (((1, 2), True), ((2, 4), False), ((-1, -2), False), ((True, 2), False), ((1, True), False)):
            paper = [[[(1, 1)]], [[(2, 1)]], [[value]], [[(3, 2)]]]
            self.is_bool(fits, is_count_paper(LOT, "abc", 1, halves, paper))
        nothing = {"b": [[0]], "ab": [[0]], "bc": [[0]]}
        for value, fits in (((0, 1), True), ((0, 2), False), ((7, 3), True), ((-7, 3), True), ((7, -3), False),
                            ((7, 0), False), ((False, 1), False), ((10 ** 40, 10 ** 40 + 1), True)):
            paper = [[[(1, 1)]], [[(0, 1)]], [[value]], [[(0, 1)]]]
            self.is_bool(fits, is_count_paper(LOT, "abc", 1, nothing, paper))

    def test_the_first_matrix_is_the_unit_one(self):
        kept = {"b": [[1]], "ab": [[1]], "bc": [[1]]}
        for number, good in (((1, 1), True), ((0, 1), False), ((2, 1), False)):
            self.is_bool(good, is_count_paper(LOT, "abc", 1, kept, [[[number]]] * 4))

    def test_what_one_step_back_leaves_free_is_bound_by_another_one(self):
        lot = Lot(["ab", "b", "bcd", "d", "de"])
        kept = {"ab": [[1, 0], [1, 0]], "b": [[1, 0], [0, 0]], "bcd": [[1, 0], [1, 1]], "d": [[0, 1], [0, 0]],
                "de": [[1, 0], [2, 1]]}
        paper = count_paper(lot, "abcde", 2, kept)
        self.assertEqual(paper[2], [[(1, 1), (-1, 1)], [(1, 1), (-1, 1)]])
        self.assertTrue(slow_is_paper(2, plan(lot, "abcde"), kept, paper))
        self.is_bool(True, is_count_paper(lot, "abcde", 2, kept, paper))
        self.refuses(NoMatrices, {}, told, lot, "abcde", 2, kept, "many")

    def test_many_papers_may_be_right(self):
        kept = {"b": [[1, 1], [0, 0]], "ab": [[1, 1], [0, 0]], "bc": [[0, 3], [0, 0]]}
        paper = count_paper(LOT, "abc", 2, kept)
        self.is_bool(True, is_count_paper(LOT, "abc", 2, kept, paper))
        for number in ((5, 1), (-5, 2), (0, 1)):
            paper[2][0][1] = paper[2][1][1] = number
            self.is_bool(True, is_count_paper(LOT, "abc", 2, kept, paper))
        paper[2][0][0] = (2, 1)
        self.is_bool(False, is_count_paper(LOT, "abc", 2, kept, paper))

    def test_what_is_told_is_new(self):
        kept = kept_of(PATH, LOT, "many")
        told(LOT, "ab", 4, kept, "many")[0][0] = 9
        whether = kept_of(PATH, LOT, "whether")
        tables(LOT, "ab", 4, whether)[1].clear()
        told(LOT, "ab", 4, whether, "whether").clear()
        self.assertEqual((kept, whether), (kept_of(PATH, LOT, "many"), kept_of(PATH, LOT, "whether")))


class Errors(Case):
    calls = [
        (lambda word, nodes, kept, telling: told(LOT, word, nodes, kept, telling), True),
        (lambda word, nodes, kept, telling: tables(LOT, word, nodes, kept), False),
        (lambda word, nodes, kept, telling: count_paper(LOT, word, nodes, kept), False),
        (lambda word, nodes, kept, telling: is_count_paper(LOT, word, nodes, kept, None), False),
    ]

    def test_in_the_sequence_of_the_parameters(self):
        for call, tells in self.calls:
            for value in wrong_values() + ["a" * 13]:
                self.refuses(InvalidWord, {"value": value}, call, value, 0, None, None)
            for value in (0, 41, True, None, "4", Odd()):
                self.refuses(InvalidNodes, {"value": value}, call, "ca", value, None, None)
            for value in ("", "Many", None, True, ["many"], Odd()):
                if tells:
                    self.refuses(InvalidTelling, {"value": value}, call, "ca", 4, None, value)

    def test_kept(self):
        for telling in ("whether", "many"):
            kept = kept_of(PATH, LOT, telling)
            for call, tells in self.calls:
                if tells or (telling == "whether") == (call is self.calls[1][0]):
                    for value in wrong_values() + [{**kept, "b": None}, {**kept, "a": kept["b"]}, [kept]]:
                        self.refuses(InvalidKept, {"value": value}, call, "ca", 4, value, telling)
                    self.refuses(InvalidKept, {"value": kept}, call, "ca", 3, kept, telling)
                    self.refuses(NotSettled, {"value": "ca"}, call, "ca", 4, kept, telling)
        many = kept_of(PATH, LOT, "many")
        self.refuses(InvalidKept, {"value": many}, tables, LOT, "abc", 4, many)
        self.refuses(InvalidKept, {"value": many}, told, LOT, "abc", 4, many, "whether")
        whether = kept_of(PATH, LOT, "whether")
        self.refuses(InvalidKept, {"value": whether}, count_paper, LOT, "abc", 4, whether)
        self.refuses(InvalidKept, {"value": whether}, told, LOT, "abc", 4, whether, "many")

    def test_not_settled_ahead_of_too_many(self):
        kept = kept_of(Store(9), LOT, "many")
        self.refuses(NotSettled, {"value": "a"}, told, LOT - "b", "a", 9, kept_of(Store(9), LOT - "b", "many"), "many")
        with self.assertRaises(TooMany):
            told(LOT, "abc", 9, kept, "many")
        with self.assertRaises(RuntimeError):
            told(LOT, "ca", 9, kept, "many")


if __name__ == "__main__":
    unittest.main()
