"""Points [31], [32] and [35], and netkeep/filled.py: filled stores, traces, and what is struck for a tie."""

import itertools
import random
import unittest

from netkeep.errors import InvalidNumber, InvalidRules, InvalidTie
from netkeep.filled import (
    filled, is_denial, is_strike_tree, is_trace, obeys, put_in, round_of, rounds, strike_tree, strikes, trace, wanted,
)
from netkeep.store import Store
from support import (
    Case, Odd, slow_filled, slow_is_trace, slow_rounds, slow_wanted, some_rules, some_store, wrong_values,
)

TURNS = [("ab", "c"), ("cc", "a")]
NET = Store(3, [(0, "a", 1), (1, "b", 2), (2, "c", 0)])
LINES = [((0, "a", 1), []), ((1, "b", 2), []), ((0, "c", 2), [0, 1]), ((2, "c", 0), []), ((0, "a", 0), [2, 3])]
CLOSE = [("aa", "a")]
WRONG_RULES = wrong_values() + [("", "a"), ("abcd", "a"), ("ab", "g"), ("ab", "A"), ("ab", ""), ("ab", "ab"),
                                ("aB", "a"), ["ab", "c"], ("ab", "c", "d"), ("ab",), ("ab", None), (None, "a"),
                                (("a",), "a"), ("ab", True), ("ab", ["c"])]
WRONG_TIES = wrong_values() + [(0, "a", 3), (3, "a", 0), (-1, "a", 0), (0, "g", 1), (False, "a", 1), (0, "a", True),
                               [0, "a", 1]]
FIVE = [("a", letter) for letter in "bcdef"]


def two_ways(steps):
    """A store with two ways of so many ties from node 0 to the last one, and this tie."""
    last = 2 * steps - 1
    one = [0] + list(range(1, steps)) + [last]
    other = [0] + list(range(steps, last)) + [last]
    ties = [(x, "a", y) for way in (one, other) for x, y in zip(way, way[1:])]
    return Store(last + 1, ties), (0, "a", last)


class Rules(Case):
    def test_obeys(self):
        self.is_bool(True, obeys(NET, []))
        self.is_bool(False, obeys(NET, TURNS))
        self.is_bool(True, obeys(store=Store(3, [(0, "a", 1), (1, "b", 2), (0, "c", 2)]), rules=TURNS[:1]))
        self.is_bool(True, obeys(Store(2), (("abc", "a"),)))
        self.is_bool(False, obeys(Store(1, [(0, "a", 0)]), [("aaa", "b")]))

    def test_wanted(self):
        self.assertEqual(wanted(NET, TURNS), [(0, "c", 2)])
        self.assertEqual(wanted(store=NET, rules=()), [])
        self.assertEqual(wanted(Store(3, [(0, "b", 2), (0, "a", 1), (1, "a", 0)]), [("a", "c"), ("aa", "b")]),
                         [(0, "b", 0), (0, "c", 1), (1, "b", 1), (1, "c", 0)])

    def test_filled(self):
        self.assertEqual(filled(NET, TURNS).ties()[:3], [(0, "a", 0), (0, "a", 1), (0, "c", 2)])
        self.assertEqual(filled(store=NET, rules=[]), NET)
        chain = Store(4, [(0, "a", 1), (1, "a", 2), (2, "a", 3)])
        self.assertEqual(len(filled(chain, CLOSE)), 6)

    def test_rounds(self):
        self.assertEqual(rounds(NET, []), 0)
        self.assertEqual(rounds(store=Store(1, [(0, "a", 0)]), rules=CLOSE), 0)
        chain = Store(40, [(x, "a", x + 1) for x in range(39)])
        self.assertEqual(rounds(chain, CLOSE), 6)
        self.assertEqual([round_of(chain, CLOSE, (0, "a", y)) for y in (0, 1, 2, 3, 4, 5, 8, 9, 39)],
                         [None, 0, 1, 2, 2, 3, 3, 4, 6])
        self.assertEqual(round_of(store=NET, rules=TURNS, tie=(0, "a", 0)), 2)

    def test_against_walks(self):
        rng = random.Random(51)
        for _ in range(80):
            store = some_store(rng, rng.randint(1, 4), rng.randint(0, 8), "abc")
            rules = some_rules(rng, rng.randint(0, 4), "abc")
            ties = set(store.ties())
            layers = slow_rounds(store.nodes, ties, rules)
            whole = slow_filled(store.nodes, ties, rules)
            self.assertEqual(wanted(store, rules), sorted(slow_wanted(store.nodes, ties, rules)))
            self.is_bool(not layers, obeys(store, rules))
            self.assertEqual(filled(store, rules), Store(store.nodes, sorted(whole)))
            self.is_bool(True, obeys(filled(store, rules), rules))
            self.assertEqual(rounds(store, rules), len(layers))
            for tie in itertools.product(range(store.nodes), "abc", range(store.nodes)):
                number = next((at + 1 for at, layer in enumerate(layers) if tie in layer), None)
                self.assertEqual(round_of(store, rules, tie), 0 if tie in ties else number)
                more = slow_filled(store.nodes, ties | {tie}, rules) - whole
                self.assertEqual(put_in(store, rules, tie), sorted(more))
                self.look_at_trace(store, rules, tie, whole)

    def look_at_trace(self, store, rules, tie, whole):
        lines = trace(store, rules, tie)
        self.assertEqual(lines is not None, tie in whole)
        denial = Store(store.nodes, sorted(whole))
        self.is_bool(tie not in whole, is_denial(store, rules, tie, denial))
        if lines is not None:
            self.assertTrue(slow_is_trace(set(store.ties()), rules, tie, lines))
            self.assertEqual(len({told for told, _ in lines}), len(lines))
            self.assertIs(type(lines), list)
            self.assertTrue(all(type(line) is tuple and type(line[1]) is list for line in lines))
            self.is_bool(True, is_trace(store, rules, tie, lines))
            self.is_bool(True, is_trace(store, rules, tie, tuple((told, tuple(at)) for told, at in lines)))

    def test_put_in(self):
        self.assertEqual(put_in(NET, TURNS, (2, "b", 1)), [(2, "b", 1), (2, "c", 1)])
        self.assertEqual(put_in(store=NET, rules=TURNS, tie=(0, "a", 1)), [])
        self.assertEqual(put_in(NET, TURNS, (0, "c", 2)), [])
        self.assertEqual(put_in(NET, [], (0, "f", 0)), [(0, "f", 0)])

    def test_long_rounds(self):
        turning = [((x + 1) % 40, "b", x) for x in range(40)] + [(x, "c", (x + 1) % 39) for x in range(39)]
        store = Store(40, turning + [(0, "a", 0)])
        rule = [("bac", "a")]
        self.assertEqual(rounds(store, rule), 40 * 39 - 1)
        self.too_many("ties", 400, filled, store, rule)
        lines = trace(store, rule, (39, "a", 38))
        self.assertEqual(round_of(store, rule, (39, "a", 38)), 1559)
        self.assertEqual(len(lines), 1560 + 79)
        self.is_bool(True, is_trace(store, rule, (39, "a", 38), lines))


class Limits(Case):
    def setUp(self):
        self.full = Store(20, [(x, "a", y) for x in range(20) for y in range(20)])

    def test_four_hundred_ties(self):
        self.assertEqual(filled(self.full, [("aaa", "a")]), self.full)
        self.too_many("ties", 400, filled, self.full, [("aa", "b")])
        just = Store(20, self.full.ties()[1:])
        self.assertEqual(filled(just, [("aa", "a")]), self.full)
        self.too_many("ties", 400, filled, just, [("aa", "a"), ("a", "b")])

    def test_only_filled_refuses_too_many_ties(self):
        rules = [("a", "b"), ("bb", "c"), ("cab", "d"), ("aaa", "e")]
        self.assertEqual(len(wanted(self.full, rules)), 800)
        self.assertEqual(rounds(self.full, rules), 3)
        self.assertEqual(round_of(self.full, rules, (0, "d", 19)), 3)
        self.assertEqual(put_in(self.full, rules, (0, "d", 19)), [])
        self.assertEqual(put_in(self.full, rules, (0, "f", 0)), [(0, "f", 0)])
        self.is_bool(True, is_trace(self.full, rules, (0, "d", 19), trace(self.full, rules, (0, "d", 19))))
        self.assertEqual(strikes(self.full, rules, (0, "d", 19)), None)
        tree = strike_tree(self.full, rules, (0, "d", 19), 2)
        self.is_bool(True, is_strike_tree(self.full, rules, (0, "d", 19), 2, tree))
        self.is_bool(False, is_denial(self.full, rules, (0, "f", 0), self.full))
        more = put_in(Store(40, [(x, "a", y) for x in range(10) for y in range(40)]), [("aa", "a"), ("aa", "b")],
                      (39, "a", 0))
        # 39 is now tied to all by "a", and whatever is tied to it by "a" then, by "b" as well.
        self.assertEqual(more, sorted([(39, "a", y) for y in range(40)] + [(39, "b", y) for y in range(40)]))

    def test_wide_rules(self):
        ties = [(x, letter, (x * 7 + k) % 40) for x in range(40) for k, letter in enumerate("abcdabcdab")]
        store = Store(40, sorted(set(ties)))
        rules = [("aaa", "a"), ("aab", "b"), ("bba", "c"), ("cab", "d")]
        self.assertGreaterEqual(rounds(store, rules), 1)
        lines = trace(store, rules, (0, "d", 39))
        self.assertIsNotNone(lines)
        self.is_bool(True, is_trace(store, rules, (0, "d", 39), lines))


class Refused(Case):
    calls = [(obeys, 0, ()), (wanted, 0, ()), (filled, 0, ()), (rounds, 0, ()), (put_in, 1, ()), (round_of, 1, ()),
             (trace, 1, ()), (is_trace, 1, (None,)), (is_denial, 1, (None,)), (strikes, 1, ()),
             (strike_tree, 1, (0,)), (is_strike_tree, 1, (0, None))]

    def test_rules_first(self):
        for call, ties, more in self.calls:
            args = [None] * ties + list(more)
            for value in (None, True, 0, "ab", {}, {("ab", "c")}, Odd(), ""):
                self.refuses(InvalidRules, {"position": None}, call, NET, value, *args)
            for value in WRONG_RULES:
                self.refuses(InvalidRules, {"position": 0}, call, NET, [value], *args)
                self.refuses(InvalidRules, {"position": 2}, call, NET, (*TURNS, value, value), *args)
            self.refuses(InvalidRules, {"position": 2}, call, NET, TURNS + TURNS, *args)
            self.refuses(InvalidRules, {"position": 5}, call, NET, FIVE + [None], *args)

    def test_then_ties(self):
        for call, ties, more in self.calls:
            for value in WRONG_TIES if ties else ():
                self.refuses(InvalidTie, {"value": value}, call, NET, FIVE, value, *more)

    def test_then_numbers(self):
        for value in (3, -1, True, False, None, "0", [0], 10 ** 20, Odd()):
            self.refuses(InvalidNumber, {"value": value}, strike_tree, NET, FIVE, (0, "a", 1), value)
            self.refuses(InvalidNumber, {"value": value}, is_strike_tree, NET, FIVE, (0, "a", 1), value, None)
            self.refuses(InvalidTie, {"value": None}, strike_tree, NET, FIVE, None, value)

    def test_then_too_many_rules(self):
        for call, ties, more in self.calls:
            args = [(0, "a", 1)] * ties + list(more)
            self.too_many("rules", 4, call, NET, FIVE, *args)
            call(NET, FIVE[:4], *args)

    def test_too_many_rules_ahead_of_too_many_ties(self):
        full = Store(20, [(x, "a", y) for x in range(20) for y in range(20)])
        self.too_many("rules", 4, filled, full, FIVE)

    def test_nothing_is_changed(self):
        rules, ties = list(TURNS), NET.ties()
        for call, many, more in self.calls:
            call(NET, rules, *[(0, "a", 1)] * many, *more)
        self.assertEqual((rules, NET.ties()), (TURNS, ties))


class Traces(Case):
    def test_ordinary(self):
        self.is_bool(True, is_trace(NET, TURNS, (0, "a", 0), LINES))
        self.is_bool(True, is_trace(store=NET, rules=TURNS, tie=(0, "a", 1), value=[((0, "a", 1), [])]))
        self.assertEqual(trace(store=NET, rules=TURNS, tie=(0, "a", 1)), [((0, "a", 1), [])])
        self.assertEqual(trace(NET, TURNS, (0, "b", 0)), None)

    def test_lines_twice_and_lines_that_nobody_needs(self):
        self.is_bool(True, is_trace(NET, TURNS, (0, "a", 0), LINES[:1] + [((1, "b", 2), []), ((0, "a", 1), [])] + [
            ((0, "c", 2), [2, 1]), ((2, "c", 0), []), ((0, "c", 2), [0, 1]), ((0, "a", 0), [5, 4])]))

    def test_a_tie_of_the_store_may_be_put_in_as_well(self):
        store = NET + (0, "a", 0)
        self.is_bool(True, is_trace(store, TURNS, (0, "a", 0), LINES))

    def test_papers_that_are_otherwise(self):
        good = LINES
        for value in wrong_values():
            self.is_bool(False, is_trace(NET, TURNS, (0, "a", 0), value))
            self.is_bool(False, is_trace(NET, TURNS, (0, "a", 0), good[:-1] + [value]))
            self.is_bool(False, is_trace(NET, TURNS, (0, "a", 0), good[:-1] + [(value, [2, 3])]))
            if value not in ([], ()):
                self.is_bool(False, is_trace(NET, TURNS, (0, "a", 0), [((0, "a", 1), value)] + good[1:]))
            self.is_bool(False, is_trace(NET, TURNS, (0, "a", 0), good[:-1] + [((0, "a", 0), [2, value])]))
        for place in range(5):
            self.is_bool(False, is_trace(NET, TURNS, (0, "a", 0), good[:place] + good[place + 1:]))
        for last in ([3, 2], [2], [2, 3, 3], [2, 4], [2, -2], [2, 5], [True, 3], [], [0, 1], {2: 0, 3: 0}, "23"):
            self.is_bool(False, is_trace(NET, TURNS, (0, "a", 0), good[:-1] + [((0, "a", 0), last)]))
        for line in (((0, "a", 0), [2, 3], 0), ((0, "a", 0),), [(0, "a", 0), [2, 3]], ((0, "b", 0), [2, 3]),
                     ((0, "a", 1), [2, 3]), ((False, "a", 0), [2, 3])):
            self.is_bool(False, is_trace(NET, TURNS, (0, "a", 0), good[:-1] + [line]))

    def test_of_another_tie_or_rules_or_store(self):
        self.is_bool(False, is_trace(NET, TURNS, (0, "c", 2), LINES))
        self.is_bool(False, is_trace(NET, TURNS[:1], (0, "a", 0), LINES))
        self.is_bool(False, is_trace(NET - (0, "a", 1), TURNS, (0, "a", 0), LINES))
        self.is_bool(False, is_trace(NET, TURNS, (0, "a", 1), []))

    def test_denials(self):
        whole = filled(NET, TURNS)
        self.is_bool(True, is_denial(NET, TURNS, (0, "b", 0), whole))
        self.is_bool(True, is_denial(store=NET, rules=TURNS, tie=(1, "a", 1), value=whole))
        every = Store(3, [(x, letter, y) for x in range(3) for letter in "abc" for y in range(3)])
        self.is_bool(True, is_denial(NET, TURNS, (1, "f", 1), every))
        for value in wrong_values() + [NET, whole + (0, "b", 0), whole - (2, "c", 0), Store(4, whole.ties()),
                                       whole.ties(), every, Store(3)]:
            self.is_bool(False, is_denial(NET, TURNS, (0, "b", 0), value))
        self.is_bool(False, is_denial(NET, TURNS, (0, "a", 0), whole))


class Strikes(Case):
    def test_ordinary(self):
        self.assertEqual(strikes(NET, TURNS, (0, "c", 2)), [(0, "a", 1)])
        self.assertEqual(strikes(store=NET, rules=TURNS, tie=(0, "b", 2)), [])
        self.assertEqual(strikes(NET, TURNS, (2, "c", 0)), [(2, "c", 0)])
        self.assertEqual(strikes(Store(2), [], (0, "a", 1)), [])

    def test_two_ways(self):
        store, tie = two_ways(3)
        self.assertEqual(strikes(store, CLOSE, tie), [(0, "a", 1), (0, "a", 3)])
        self.assertEqual(strikes(store + tie, CLOSE, tie), None)
        self.assertEqual(strikes(store - (3, "a", 4), CLOSE, tie), [(0, "a", 1)])

    def test_the_least_pair_has_no_tie_of_the_shortest_trace_first(self):
        # The trace of one round has "c" and "b". Struck may be "b" and "d", "a" and "c", "c" and "d".
        store = Store(2, [(0, "a", 0), (0, "b", 1), (0, "c", 0), (0, "d", 1)])
        rules = [("cb", "f"), ("cd", "f"), ("ad", "e"), ("e", "f")]
        self.assertEqual(strikes(store, rules, (0, "f", 1)), [(0, "a", 0), (0, "c", 0)])

    def test_a_pair_that_is_the_same_but_later(self):
        # Two rules tell the tie, and each of the two ties of its trace has another one beside it.
        store = Store(3, [(0, "b", 1), (0, "c", 1), (1, "d", 2), (1, "e", 2)])
        rules = [("bd", "a"), ("be", "a"), ("cd", "a"), ("ce", "a")]
        self.assertEqual(strikes(store, rules, (0, "a", 2)), [(0, "b", 1), (0, "c", 1)])
        self.assertEqual(strikes(store, rules[1:], (0, "a", 2)), [(0, "b", 1), (0, "c", 1)])
        self.assertEqual(strikes(store, [("bd", "a"), ("ce", "a")], (0, "a", 2)), [(0, "b", 1), (0, "c", 1)])
        self.assertEqual(strikes(store, [("d", "a"), ("e", "a")], (1, "a", 2)), [(1, "d", 2), (1, "e", 2)])

    def test_against_all_choices(self):
        rng = random.Random(52)
        seen = {}
        for _ in range(250):
            store = some_store(rng, rng.randint(2, 4), rng.randint(3, 13), "ab")
            rules = some_rules(rng, rng.randint(2, 4), "ab")
            whole = sorted(slow_filled(store.nodes, set(store.ties()), rules))
            tie = rng.choice([one for one in whole if one not in store] or whole)
            slow = self.slow_strikes(store, rules, tie)
            self.assertEqual(strikes(store, rules, tie), slow)
            least = 3 if slow is None else len(slow)
            seen[least] = seen.get(least, 0) + 1
            for number in range(3):
                tree = strike_tree(store, rules, tie, number)
                self.assertEqual(tree is None, least <= number)
                self.is_bool(tree is not None, is_strike_tree(store, rules, tie, number, tree))
                if tree is not None:
                    self.look_at_tree(set(store.ties()), rules, tie, number, tree)
        self.assertGreaterEqual(min(seen[many] for many in (1, 2, 3)), 8)

    def slow_strikes(self, store, rules, tie):
        for many in (1, 2):
            for struck in itertools.combinations(store.ties(), many):
                if tie not in slow_filled(store.nodes, set(store.ties()) - set(struck), rules):
                    return list(struck)
        return None

    def look_at_tree(self, ties, rules, tie, number, tree):
        self.assertIs(type(tree), tuple)
        lines, branches = tree
        self.assertTrue(slow_is_trace(ties, rules, tie, lines))
        leaves = sorted({told for told, positions in lines if not positions}) if number else []
        self.assertEqual(list(branches), leaves)
        for leaf in leaves:
            self.look_at_tree(ties - {leaf}, rules, tie, number - 1, branches[leaf])

    def test_trees(self):
        store, tie = two_ways(2)
        tree = strike_tree(store, CLOSE, tie, 1)
        self.is_bool(True, is_strike_tree(store=store, rules=CLOSE, tie=tie, number=1, value=tree))
        self.assertEqual(strike_tree(store=store, rules=CLOSE, tie=tie, number=2), None)
        self.assertEqual(strike_tree(store, CLOSE, (0, "f", 0), 0), None)
        self.assertEqual(strike_tree(NET, TURNS, (2, "c", 0), 0), ([((2, "c", 0), [])], {}))
        self.assertEqual(strike_tree(NET, TURNS, (2, "c", 0), 1), None)

    def test_trees_that_are_otherwise(self):
        store, tie = two_ways(2)
        one = [((0, "a", 1), []), ((1, "a", 3), []), (tie, [0, 1])]
        other = [((0, "a", 2), []), ((2, "a", 3), []), (tie, [0, 1])]
        good = (one, {(0, "a", 1): (other, {}), (1, "a", 3): (other, {})})
        self.is_bool(True, is_strike_tree(store, CLOSE, tie, 1, good))
        self.is_bool(True, is_strike_tree(store, CLOSE, tie, 1, (tuple(one), {
            (1, "a", 3): (tuple(other), {}), (0, "a", 1): (other, {})})))
        self.is_bool(True, is_strike_tree(store, CLOSE, tie, 0, (one, {})))
        self.is_bool(False, is_strike_tree(store, CLOSE, tie, 0, good))
        self.is_bool(False, is_strike_tree(store, CLOSE, tie, 1, (one, {})))
        self.is_bool(False, is_strike_tree(store, CLOSE, tie, 2, good))
        branch = {(0, "a", 1): (other, {})}
        for branches in (branch, {**branch, (1, "a", 3): (one, {})}, {**good[1], (0, "a", 2): (other, {})},
                         {**branch, (1, "a", 3): (other, {(0, "a", 2): (one, {})})}, {**branch, (1, "a", 3): None},
                         {**branch, (True, "a", 3): (other, {})}, {**branch, "x": (other, {})},
                         {**branch, (1, "a", 3): [other, {}]}, {**branch, (1, "a", 3): (other,)},
                         [((0, "a", 1), (other, {}))], None, [], ()):
            self.is_bool(False, is_strike_tree(store, CLOSE, tie, 1, (one, branches)))
        self.is_bool(False, is_strike_tree(store, CLOSE, (0, "a", 1), 0, (one, {})))
        self.is_bool(False, is_strike_tree(store, CLOSE, (1, "a", 3), 0, (one[:1], {})))
        self.is_bool(False, is_strike_tree(store, CLOSE, tie, 1, (one, {**good[1], (1, "a", 3): (other[:2], {})})))
        for value in wrong_values() + [[one, good[1]], (one,), good + (0,), (None, good[1]), (one[1:], good[1])]:
            self.is_bool(False, is_strike_tree(store, CLOSE, tie, 1, value))
            self.is_bool(False, is_strike_tree(store, CLOSE, tie, 0, value))

    def test_long_ways(self):
        store, tie = two_ways(20)
        self.assertEqual(store.nodes, 40)
        self.assertEqual(strikes(store, CLOSE, tie), [(0, "a", 1), (0, "a", 20)])
        tree = strike_tree(store, CLOSE, tie, 1)
        self.is_bool(True, is_strike_tree(store, CLOSE, tie, 1, tree))
        tree = strike_tree(store + tie, CLOSE, tie, 2)
        self.is_bool(True, is_strike_tree(store + tie, CLOSE, tie, 2, tree))
        self.assertEqual(strike_tree(store, CLOSE, tie, 2), None)


if __name__ == "__main__":
    unittest.main()
