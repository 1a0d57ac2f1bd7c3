"""Points [83] and [84], and netkeep/code.py: code, its runs, and the sayings for which its lines stand."""

import random
import unittest

from netkeep.code import Code, is_run, run, run_kept, stands_for, tell_alike
from netkeep.errors import InvalidKept, InvalidNodes, TooMany
from netkeep.faults import HasBack, InvalidLines, NotKept
from netkeep.sayings import Saying, said, says_alike
from netkeep.store import Store
from coded import SAID, slow_run, slow_trees, some_lines
from spoken import leaves_of, parts_of
from support import Case, Odd, Same, otherwise, some_store, wrong_values

LOAD = ("load", 0, "a")
FORK = Store(3, [(0, "a", 1), (0, "a", 2), (1, "b", 2), (2, "b", 2)])
LINES = [("load", 0, "a"), ("load", 3, "b"), ("or", 5, 0, 3), ("load", 0, "B"), ("again", 0, 0), ("then", 7, 5, 0)]
CODE = Code(LINES)
KEPT = Code([("keep", 0, "ab"), ("keep", 1, "b"), ("back", 0, 0, 1)])
FORMS = [("load", 15, "F"), ("keep", 0, "abcdefabcdef"), ("then", 0, 0, 0), ("or", 15, 0, 0), ("back", 1, 0, 0),
         ("again", 2, 0), ("perhaps", 3, 0)]
WRONG_LINES = wrong_values() + [
    ("load", 0, "g"), ("load", 0, "ab"), ("load", 0, ""), ("load", 0, None), ("load", 16, "a"), ("load", -1, "a"),
    ("load", True, "a"), ("load", False, "a"), ("load", "0", "a"), ("load", 0), ("load", 0, "a", 0), ["load", 0, "a"],
    ("keep", 0, "A"), ("keep", 0, ""), ("keep", 0, "a" * 13), ("keep", 0, "abg"), ("keep", 0, None), ("keep", 0),
    ("keep", 0, "a", "b"), ("then", 0, 0), ("then", 0, 0, 0, 0), ("then", 0, 0, True), ("then", 0, False, 0),
    ("then", 0, 0, None), ("then", 0, 0, "a"), ("then", 16, 0, 0), ("then", 0, 0, 16), ("then", 0, -1, 0),
    ("or", 0, 0), ("back", 0, 0), ("again", 0), ("again", 0, 0, 0), ("again", 0, "a"), ("perhaps", 0), ("perhaps", 0, 0, 0),
    ("perhaps", 0, True), ("and", 0, 0, 0), ("LOAD", 0, "a"), (None, 0, "a"), (Same(), 0, "a"), ("load", Same(), "a"),
    ("again", 0, Same()), ("then", 0, 0, 1), ("then", 0, 1, 0), ("again", 0, 1), ("or", 2, 2, 0), ("load",), "load 0 a",
]


def slow_is_line(value, written):
    """Whether a value is a line, where some registers are written."""
    if type(value) is not tuple or not value or type(value[0]) is not str:
        return False
    many = {"load": 3, "keep": 3, "then": 4, "or": 4, "back": 4, "again": 3, "perhaps": 3}.get(value[0])
    if len(value) != many or type(value[1]) is not int or not 0 <= value[1] <= 15:
        return False
    if value[0] == "load":
        return type(value[2]) is str and len(value[2]) == 1 and value[2] in "abcdefABCDEF"
    if value[0] == "keep":
        return type(value[2]) is str and 1 <= len(value[2]) <= 12 and set(value[2]) <= set("abcdef")
    return all(type(place) is int and place in written for place in value[2:])


class Made(Case):
    def test_parts(self):
        self.assertEqual(CODE.lines(), LINES)
        self.assertEqual((CODE.registers, CODE.told, len(CODE)), (4, 7, 6))
        self.assertEqual((KEPT.registers, KEPT.told, len(KEPT)), (2, 0, 3))
        self.assertEqual([CODE[at] for at in range(6)], LINES)
        self.assertEqual(repr(Code([LOAD])), "Code([('load', 0, 'a')])")
        self.assertEqual(Code(lines=tuple(LINES)), CODE)
        for line in FORMS:
            self.assertEqual(Code([LOAD, line]).lines(), [LOAD, line])

    def test_copies_and_new_lists(self):
        lines = [LOAD]
        code = Code(lines)
        lines.append(None)
        code.lines().append(None)
        self.assertEqual(code.lines(), [LOAD])
        self.assertEqual((code + ("again", 1, 0)).lines(), [LOAD, ("again", 1, 0)])
        self.assertEqual(code.lines(), [LOAD])

    def test_lines_that_are_none(self):
        for value in (None, True, 0, "abc", "", {}, {0: LOAD}, [], (), CODE, Odd()):
            self.refuses(InvalidLines, {"position": None}, Code, value)
        for value in WRONG_LINES:
            self.refuses(InvalidLines, {"position": 1}, Code, [LOAD, value, None])
            self.refuses(InvalidLines, {"position": 40}, Code, (LOAD,) * 40 + (value,))
            self.refuses(InvalidLines, {"position": 1}, lambda: Code([LOAD]) + value)
            self.refuses(InvalidLines, {"position": 40}, lambda: Code([LOAD] * 40) + value)
        for line in FORMS[2:]:
            self.refuses(InvalidLines, {"position": 0}, Code, [line, LOAD])
        # What a line writes itself it cannot read.
        self.refuses(InvalidLines, {"position": 1}, Code, [LOAD, ("again", 1, 1)])

    def test_lines_that_are_otherwise(self):
        for line in FORMS:
            for value in otherwise(line):
                if slow_is_line(value, [0]):
                    self.assertEqual(Code([LOAD, value])[1], value)
                else:
                    self.refuses(InvalidLines, {"position": 1}, Code, [LOAD, value])

    def test_forty_lines_and_more(self):
        self.assertEqual(len(Code([LOAD] * 40)), 40)
        self.assertEqual(Code([("load", at % 16, "a") for at in range(40)]).registers, 16)
        self.too_many("lines", 40, Code, [LOAD] * 41)
        self.too_many("lines", 40, lambda: Code([LOAD] * 40) + LOAD)
        self.assertEqual(len(Code([LOAD] * 39) + LOAD), 40)

    def test_positions(self):
        for value in wrong_values() + [6, -1, "0", LOAD]:
            self.refuses(InvalidLines, {"position": value}, lambda: CODE[value])

    def test_not_iterated_over(self):
        for call in (list, iter, tuple, lambda told: [line for line in told], lambda told: LOAD in told):
            with self.assertRaises(TypeError):
                call(CODE)

    def test_equal(self):
        self.assertTrue(CODE == Code(LINES))
        self.assertFalse(CODE != Code(LINES))
        for other in (Code(LINES[:-1]), Code(LINES[:-1] + [("then", 6, 5, 0)]), LINES, repr(CODE), None, Odd()):
            self.assertFalse(CODE == other)
            self.assertTrue(CODE != other)


class Runs(Case):
    def test_ordinary(self):
        self.assertEqual(run(CODE, FORK)[4], [(2, 1), (2, 2)])
        self.assertEqual(run(code=KEPT, store=FORK), [[(0, 2)], [(1, 2), (2, 2)], [(0, 0), (0, 1), (0, 2), (1, 0), (2, 0)]])
        kept = {"b": ((1, 2), (2, 2)), "ab": [(0, 2)], "cc": []}
        self.assertEqual(run_kept(code=KEPT, nodes=3, kept=kept), run(KEPT, FORK))

    def test_against_pairs(self):
        rng = random.Random(201)
        for _ in range(150):
            code = Code(some_lines(rng, rng.randint(1, 10)))
            store = some_store(rng, rng.randint(1, 4), rng.randint(0, 8), "ab")
            told = [sorted(table) for table in slow_run(store.nodes, code.lines(), set(store.ties()))]
            self.assertEqual(run(code, store), told)
            self.is_bool(True, is_run(code, store, told))
            self.is_bool(True, is_run(code, store, tuple(map(tuple, told))))

    def test_by_kept_answers_alone(self):
        rng = random.Random(202)
        for _ in range(100):
            code = Code(some_lines(rng, rng.randint(1, 8), ("keep", "then", "or", "back", "again", "perhaps")))
            nodes = rng.randint(1, 4)
            pairs = [(x, y) for x in range(nodes) for y in range(nodes)]
            kept = {word: sorted(rng.sample(pairs, rng.randint(0, len(pairs)))) for word in ("b", "ab", "a")}
            told = [sorted(table) for table in slow_run(nodes, code.lines(), kept=kept)]
            self.assertEqual(run_kept(code, nodes, kept), told)
            self.assertEqual(run_kept(code, nodes, {word: tuple(kept[word]) for word in kept}), told)

    def test_errors_in_sequence(self):
        for value in (0, 41, -1, True, None, "2", [2], Odd()):
            self.refuses(InvalidNodes, {"value": value}, run_kept, CODE, value, None)
        for value in wrong_values() + [{"a": 1}, {"a": [(0, 2)]}, {"a": [(0, 1), (0, 0)]}, {"a": [(0, True)]}, {"A": []},
                                       {"": []}, {0: []}, {None: []}, {("a",): []}, {"a" * 13: []}, {"a": None},
                                       {"a": [[0, 1]]}, [("a", [])], {"a": [], Same(): []}]:
            if not (isinstance(value, dict) and value == {}):
                self.refuses(InvalidKept, {"value": value}, run_kept, CODE, 2, value)
        with self.assertRaises(NotKept) as caught:
            run_kept(CODE, 2, {})
        self.assertEqual(caught.exception.value, "a")
        for kept, word in (({}, "ab"), ({"b": []}, "ab"), ({"ab": []}, "b")):
            with self.assertRaises(NotKept) as caught:
                run_kept(KEPT, 2, kept)
            self.assertEqual(caught.exception.value, word)
        with self.assertRaises(NotKept) as caught:
            run_kept(KEPT + ("load", 3, "B"), 2, {"a": [], "b": [], "ab": []})
        self.assertEqual(caught.exception.value, "B")

    def test_more_words_than_a_lot_has(self):
        kept = {"a" * many: [(0, 0)] for many in range(1, 13)}
        self.assertEqual(run_kept(Code([("keep", 0, "a" * 12)]), 1, kept), [[(0, 0)]])

    def test_values_that_are_otherwise(self):
        told = run(CODE, FORK)
        for value in otherwise(told):
            good = (type(value) in (list, tuple) and [type(table) for table in value] == [type(table) for table in value
                    if type(table) in (list, tuple)] and repr([list(table) for table in value]) == repr(told))
            self.is_bool(good, is_run(CODE, FORK, value))
        self.is_bool(False, is_run(code=CODE, store=FORK, value=told[:-1]))
        self.is_bool(False, is_run(CODE, FORK, told + [[]]))
        self.is_bool(False, is_run(Code([LOAD]), Store(2, [(0, "a", 1)]), [[(False, True)]]))
        self.is_bool(False, is_run(Code([LOAD]), Store(2, [(0, "a", 1)]), [[(0, 1), (0, 1)]]))

    def test_what_is_told_is_new(self):
        told = run(Code([LOAD, ("or", 1, 0, 0), LOAD]), FORK)
        told[0].clear()
        self.assertEqual(told[1:], [[(0, 1), (0, 2)]] * 2)
        kept = {"a": [(0, 1)]}
        told = run_kept(Code([("keep", 0, "a"), ("keep", 1, "a")]), 2, kept)
        told[0].clear()
        self.assertEqual((told[1], kept), ([(0, 1)], {"a": [(0, 1)]}))

    def test_forty_lines_on_forty_nodes(self):
        lines = [("keep", 0, "abcdefabcdef"), ("load", 1, "F")] + [("back", 0, 0, 1), ("again", 1, 1)] * 19
        store = Store(40, [(x, letter, (x + 1) % 40) for letter in "abcdef" for x in range(40)])
        self.is_bool(True, is_run(Code(lines), store, run(Code(lines), store)))


class Stands(Case):
    def test_ordinary(self):
        self.assertEqual([saying.shape for saying in stands_for(CODE)],
                         ["a", "b", ("or", "a", "b"), "B", ("again", "B"), ("then", ("or", "a", "b"), ("again", "B"))])
        self.assertEqual(stands_for(code=Code([("keep", 3, "abc"), ("perhaps", 3, 3)]))[1],
                         Saying(("perhaps", ("then", ("then", "a", "b"), "c"))))

    def test_against_trees(self):
        rng = random.Random(203)
        many = {True: 0, False: 0}
        for _ in range(200):
            lines = some_lines(rng, rng.randint(1, 12), SAID + ("keep",), words=("ab", "abc"))
            trees = slow_trees(lines)
            great = [tree for tree in trees if len(leaves_of(tree)) > 8 or parts_of(tree) > 15][:1]
            many[bool(great)] += 1
            if great:
                what = ("leaves", 8) if len(leaves_of(great[0])) > 8 else ("parts", 15)
                self.too_many(*what, stands_for, Code(lines))
                continue
            self.assertEqual([saying.shape for saying in stands_for(Code(lines))], trees)
            store = some_store(rng, rng.randint(1, 4), rng.randint(0, 8), "abc")
            self.assertEqual([said(store, saying) for saying in stands_for(Code(lines))], run(Code(lines), store))
        self.assertGreater(min(many.values()), 10)

    def test_back(self):
        back = ("back", 0, 0, 0)
        self.refuses(HasBack, {"position": 1}, stands_for, Code([LOAD, back, back]))
        # It is told ahead of lines with too great trees.
        self.refuses(HasBack, {"position": 2}, stands_for, Code([("keep", 0, "a" * 9), LOAD, back]))
        great = Code([("keep", 0, "a" * 9)])
        small = Code([LOAD])
        self.refuses(HasBack, {"position": 1}, tell_alike, Code([LOAD, back]), Code([LOAD, LOAD, back]))
        self.refuses(HasBack, {"position": 2}, tell_alike, great, Code([LOAD, LOAD, back]))
        self.refuses(HasBack, {"position": 1}, tell_alike, Code([LOAD, back]), great)
        long = Code([("keep", 0, "abcd")])
        deep = Code([LOAD] + [("again", 0, 0)] * 15)
        self.too_many("leaves", 8, tell_alike, great, deep)
        self.too_many("parts", 15, tell_alike, deep, great)
        self.too_many("leaves", 8, tell_alike, long, great)
        self.too_many("parts", 15, tell_alike, small, deep)
        self.too_many("standings", 4, tell_alike, long, small)

    def test_great_trees_of_few_lines(self):
        self.too_many("leaves", 8, stands_for, Code([LOAD] + [("then", 0, 0, 0)] * 39))
        self.assertEqual(len(stands_for(Code([LOAD] + [("then", 0, 0, 0)] * 3))), 4)
        self.too_many("leaves", 8, stands_for, Code([LOAD] + [("then", 0, 0, 0)] * 4))
        # Also of lines that the last one does not read.
        self.too_many("leaves", 8, tell_alike, Code([LOAD]), Code([("keep", 1, "a" * 9), LOAD]))

    def test_alike(self):
        again = [LOAD, ("again", 0, 0), ("again", 0, 0)]
        self.is_bool(True, tell_alike(Code(again), Code(again[:2])))
        self.is_bool(False, tell_alike(one=Code(again), other=Code([LOAD])))
        both = [("load", 0, "a"), ("load", 1, "b"), ("then", 0, 0, 1)]
        self.is_bool(True, tell_alike(Code(both), Code([("load", 5, "c"), ("keep", 5, "ab")])))
        rng = random.Random(204)
        kinds = set()
        for _ in range(120):
            one, other = (Code(some_lines(rng, rng.randint(1, 4), SAID, signs="aA", registers=2)) for _ in range(2))
            try:
                told = says_alike(stands_for(one)[-1], stands_for(other)[-1])
            except TooMany as error:
                self.too_many(error.what, error.limit, tell_alike, one, other)
                continue
            self.is_bool(told, tell_alike(one, other))
            kinds.add(told)
        self.assertEqual(kinds, {True, False})


if __name__ == "__main__":
    unittest.main()
