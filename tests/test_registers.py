"""Points [85] and [86], and netkeep/registers.py: numbers, code of sayings, tables in use, and packed code."""

import itertools
import random
import unittest

from netkeep.code import Code, run, stands_for
from netkeep.registers import code_of, fewest_registers, fullest, in_use, is_code_of, number_of, numbers, packed
from netkeep.sayings import Saying, said
from coded import slow_in_use, slow_reads, slow_trees, some_lines
from spoken import parts_of, small_tree
from support import Case, Odd, Same, some_store, wrong_values

SAY = Saying(("then", ("or", "a", "b"), ("again", "B")))
LINES = [("load", 0, "a"), ("load", 3, "b"), ("or", 5, 0, 3), ("load", 0, "B"), ("again", 0, 0), ("then", 7, 5, 0)]
CODE = Code(LINES)


def slow_number(tree):
    """The number of a tree."""
    if isinstance(tree, str):
        return 1
    told = [slow_number(part) for part in tree[1:]]
    return told[0] + 1 if len(told) == 2 and told[0] == told[1] else max(told)


def slow_parts(tree):
    """The parts, each behind its own parts."""
    inner = [] if isinstance(tree, str) else [one for part in tree[1:] for one in slow_parts(part)]
    return inner + [tree]


def slow_is_code(tree, lines):
    """Whether lines are code of a tree."""
    if any(line[0] in ("keep", "back") for line in lines):
        return False
    read = [place for places in slow_reads(lines) for place in places]
    return sorted(read) == list(range(len(lines) - 1)) and slow_trees(lines)[-1] == tree


def schedules(tree):
    """All sequences of the lines of a saying in which each line stands behind those that it reads: for each line
    the tuple (kind or sign, places of what it reads)."""
    parts = []

    def number(part):
        below = () if isinstance(part, str) else tuple(number(inner) for inner in part[1:])
        parts.append((part if isinstance(part, str) else part[0], below))
        return len(parts) - 1

    number(tree)
    for order in itertools.permutations(range(len(parts))):
        if all(order.index(below) < at for at, one in enumerate(order) for below in parts[one][1]):
            yield [(parts[one][0], [order.index(below) for below in parts[one][1]]) for one in order]


def slow_fewest(tree):
    """The fewest registers of code of a tree: the fewest tables in use at once, of all sequences of lines."""
    fewest = 99
    for told in schedules(tree):
        last = [max([at] + [later for later, (_, below) in enumerate(told) if at in below]) for at in range(len(told))]
        fewest = min(fewest, max(sum(ahead == at or last[ahead] > at for ahead in range(at + 1)) for at in range(len(told))))
    return fewest


class Numbers(Case):
    def test_ordinary(self):
        self.assertEqual(numbers(SAY), [1, 1, 2, 1, 1, 2])
        self.assertEqual(number_of(SAY), 2)
        self.assertEqual(numbers(saying=Saying("a")), [1])
        self.assertEqual(numbers(Saying(("or", ("then", "a", "b"), ("again", ("or", "c", "d"))))), [1, 1, 2, 1, 1, 2, 2, 3])
        self.assertEqual(numbers(Saying(("then", "a", ("then", "b", "c")))), [1, 1, 1, 2, 2])
        self.assertEqual(number_of(saying=Saying.of("abcdefab")), 2)

    def test_against_trees(self):
        rng = random.Random(211)
        for _ in range(150):
            tree = small_tree(rng)
            self.assertEqual(numbers(Saying(tree)), [slow_number(part) for part in slow_parts(tree)])
            self.assertEqual(number_of(Saying(tree)), slow_number(tree))

    def test_fewest_of_all_sequences(self):
        rng = random.Random(212)
        for _ in range(40):
            tree = small_tree(rng, 4, more=0.1)
            if parts_of(tree) < 8:
                self.assertEqual(number_of(Saying(tree)), slow_fewest(tree))

    def test_eight_leaves(self):
        full = ("or", ("then", ("or", "a", "b"), ("or", "c", "d")), ("then", ("or", "e", "f"), ("or", "A", "B")))
        self.assertEqual(number_of(Saying(full)), 4)
        self.assertEqual(code_of(Saying(full)).registers, 4)


class CodeOf(Case):
    def test_ordinary(self):
        self.is_bool(True, is_code_of(SAY, CODE))
        self.is_bool(True, is_code_of(saying=SAY, value=code_of(SAY)))
        self.assertEqual(code_of(saying=Saying("F")).registers, 1)

    def test_against_trees(self):
        rng = random.Random(213)
        for _ in range(200):
            tree = small_tree(rng)
            code = code_of(Saying(tree))
            self.assertTrue(slow_is_code(tree, code.lines()))
            self.is_bool(True, is_code_of(Saying(tree), code))
            self.assertEqual((code.registers, len(code)), (slow_number(tree), parts_of(tree)))
            self.assertEqual(stands_for(code)[-1], Saying(tree))
            store = some_store(rng, 3, rng.randint(0, 8), "ab")
            self.assertEqual(run(code, store)[-1], said(store, Saying(tree)))

    def test_values_that_are_none(self):
        for value in wrong_values() + [LINES, SAY, Code, repr(CODE), Odd(), Same()]:
            self.is_bool(False, is_code_of(SAY, value))
        one, both = Saying("a"), Saying(("then", "a", "a"))
        load = ("load", 0, "a")
        for saying, lines in ((both, [load, ("then", 0, 0, 0)]), (one, [load, load]), (one, [("load", 0, "b")]),
                              (one, [("keep", 0, "a")]), (Saying(("or", "a", "a")), [load, ("or", 0, 0, 0)]),
                              (both, [load, ("load", 1, "a"), ("load", 2, "a"), ("then", 0, 0, 1)]),
                              (both, [load, ("load", 1, "a"), ("then", 2, 0, 1), ("then", 3, 0, 1)]),
                              (both, [load, ("load", 1, "a"), ("back", 2, 0, 1)]),
                              (both, [load, ("load", 1, "a"), ("or", 2, 0, 1)]),
                              (Saying(("then", "a", "b")), [load, ("load", 1, "b"), ("then", 2, 1, 0)]),
                              (Saying(("again", "a")), [load, ("perhaps", 0, 0)])):
            self.is_bool(False, is_code_of(saying, Code(lines)))
        # As many lines as parts, and the last table, but one table is read twice and one never.
        self.is_bool(False, is_code_of(both, Code([("load", 1, "b"), load, ("then", 0, 0, 0)])))
        # Forty lines, each table read once, with a tree beyond all sayings.
        self.is_bool(False, is_code_of(Saying(("again", "a")), Code([load] + [("again", 0, 0)] * 39)))

    def test_against_all_small_code(self):
        rng = random.Random(214)
        many = 0
        for _ in range(1500):
            lines = some_lines(rng, rng.randint(1, 4), ("load", "load", "then", "or", "again"), signs="ab", registers=3)
            tree = slow_trees(lines)[-1]
            if parts_of(tree) > 8:
                continue
            good = slow_is_code(tree, lines)
            many += good
            self.is_bool(good, is_code_of(Saying(tree), Code(lines)))
            self.is_bool(False, is_code_of(Saying(("perhaps", tree)), Code(lines)))
        self.assertGreater(many, 100)


class InUse(Case):
    def test_ordinary(self):
        self.assertEqual(in_use(CODE), [1, 2, 1, 2, 2, 1])
        self.assertEqual((fewest_registers(CODE), fullest(CODE)), (2, 1))
        self.assertEqual(packed(CODE).registers, 2)
        self.assertEqual(packed(CODE)[5], ("then", 0, 0, 1))
        self.assertEqual(in_use(code=Code([("load", 3, "a")] * 3)), [1, 1, 1])
        self.assertEqual(fewest_registers(code=Code([("load", 3, "a")])), 1)
        self.assertEqual(fullest(code=Code([("load", 3, "a")])), 0)
        self.assertEqual(packed(code=Code([("keep", 9, "ab"), ("back", 9, 9, 9)])), Code([("keep", 0, "ab"), ("back", 0, 0, 0)]))

    def test_against_reads(self):
        rng = random.Random(215)
        less = 0
        for _ in range(200):
            code = Code(some_lines(rng, rng.randint(1, 14), registers=rng.choice((2, 5, 16))))
            lines, found = code.lines(), packed(code)
            used = slow_in_use(lines)
            self.assertEqual(in_use(code), [len(some) for some in used])
            self.assertEqual(fewest_registers(code), max(map(len, used)))
            self.assertEqual(fullest(code), [len(some) for some in used].index(max(map(len, used))))
            self.assertEqual(slow_reads(found.lines()), slow_reads(lines))
            self.assertEqual([line[0] for line in found.lines()], [line[0] for line in lines])
            for at, line in enumerate(found.lines()):
                taken = {found[ahead][1] for ahead in used[at] if ahead != at}
                self.assertEqual(line[1], min(set(range(17)) - taken))
                if line[0] in ("load", "keep"):
                    self.assertEqual(line[2], lines[at][2])
            self.assertEqual(found.registers, fewest_registers(code))
            less += found.registers < code.registers
            store = some_store(rng, 3, rng.randint(0, 7), "ab")
            self.assertEqual(run(found, store), run(code, store))
        self.assertGreater(less, 30)

    def test_sixteen_tables_in_use(self):
        lines = [("load", at, "a") for at in range(16)] + [("or", 0, 0, at) for at in range(1, 16)]
        self.assertEqual(in_use(Code(lines)), list(range(1, 17)) + list(range(15, 0, -1)))
        self.assertEqual((fewest_registers(Code(lines)), fullest(Code(lines))), (16, 15))
        self.assertEqual(packed(Code(lines)).registers, 16)


if __name__ == "__main__":
    unittest.main()
