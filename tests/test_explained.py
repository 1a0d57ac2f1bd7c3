"""Points [72] and [73], and netkeep/explained.py: which orders explain weavings, and stores that show the contrary."""

import itertools
import random
import unittest

from netkeep.errors import InvalidOrder
from netkeep.explained import (
    against_all, everywhere, explains, explains_in, first_missed, how_many_missed, is_against_all, is_miss, is_misses,
    miss, misses, order_for, order_table,
)
from netkeep.faults import InvalidWeaving, TooFewNodes
from netkeep.store import Store
from netkeep.weaving import Sessions, weavings
from support import Case, Odd, Same, otherwise, some_store, wrong_values
from woven import (
    slow_explains, slow_explains_in, slow_explains_with, slow_is_miss, slow_is_missed, slow_orders, some_sessions,
    touched_sets,
)

ASK, PUT, STRIKE = ("ask", "a"), ("put", (0, "a", 1)), ("strike", (0, "a", 1))
TWO = Sessions(2, [[ASK, ASK], [PUT]])
# No order explains the weaving EARLY for all stores, but in each store one does.
MIXED, EARLY = Sessions(2, [[STRIKE], [("put", (1, "a", 0)), PUT], [ASK]]), (1, 2, 1, 0)
ENDS = Sessions(2, [[PUT, STRIKE], [STRIKE, PUT]])
FULL_TIES = [(x, letter, y) for letter in "cdef" for x in range(10) for y in range(10)]
WRONG_WEAVINGS = wrong_values() + [[0, 1], [0, 0, True], (0, 0, 2), "001", [1, 1, 0]]
WRONG_ORDERS = wrong_values() + [(0,), (0, 0), (0, 1, 2), (0, True), (False, 1), "01", {0: 0, 1: 1}, (-1, 0)]
BY_WEAVING = (order_for, misses, everywhere, against_all)


class Explains(Case):
    def test_ordinary(self):
        self.is_bool(True, explains(TWO, (0, 0, 1), (0, 1)))
        self.is_bool(False, explains(TWO, [0, 0, 1], [1, 0]))
        self.is_bool(False, explains(sessions=TWO, weaving=[0, 1, 0], order=(0, 1)))
        self.assertEqual([order_for(TWO, weaving) for weaving in weavings(TWO)], [(0, 1), None, (1, 0)])
        self.is_bool(True, explains_in(TWO, Store(2, [(0, "a", 1)]), (0, 1, 0), (0, 1)))
        self.is_bool(False, explains_in(sessions=TWO, store=Store(2), weaving=(0, 1, 0), order=(0, 1)))
        self.is_bool(False, explains_in(TWO, Store(2), (0, 1, 0), (1, 0)))

    def test_unlike_ends_alone(self):
        self.assertEqual([weaving for weaving in weavings(ENDS) if order_for(ENDS, weaving) == (1, 0)],
                         [(0, 1, 1, 0), (1, 0, 1, 0), (1, 1, 0, 0)])
        self.is_bool(False, explains(ENDS, (0, 0, 1, 1), (1, 0)))
        self.assertEqual(miss(ENDS, (0, 0, 1, 1), (1, 0))[0], None)

    def test_marks_of_other_letters_do_not_matter_to_an_ask(self):
        other = Sessions(2, [[("ask", "bc"), ("ask", "ca")], [PUT]])
        self.assertEqual(order_for(other, (0, 1, 0)), (1, 0))
        self.assertEqual(order_for(other, (1, 0, 0)), (1, 0))
        self.assertEqual(order_for(other, (0, 0, 1)), (0, 1))

    def test_against_stores(self):
        rng = random.Random(171)
        for _ in range(60):
            sessions = some_sessions(rng)
            for weaving in rng.sample(weavings(sessions), min(3, len(weavings(sessions)))):
                told = [order for order in slow_orders(sessions) if slow_explains(sessions, weaving, order)]
                self.assertEqual(order_for(sessions, weaving), told[0] if told else None)
                for order in slow_orders(sessions):
                    self.is_bool(order in told, explains(sessions, weaving, list(order)))
                    store = some_store(rng, rng.randint(2, 4), rng.randint(0, 7), "ab")
                    found = explains_in(sessions, store, list(weaving), order)
                    self.is_bool(slow_explains_in(sessions, store.nodes, store.ties(), weaving, order), found)

    def test_errors_in_sequence(self):
        for value in WRONG_WEAVINGS:
            self.refuses(InvalidWeaving, {"value": value}, explains, TWO, value, None)
            self.refuses(InvalidWeaving, {"value": value}, explains_in, TWO, Store(1), value, None)
            self.refuses(InvalidWeaving, {"value": value}, miss, TWO, value, None)
            self.refuses(InvalidWeaving, {"value": value}, is_miss, TWO, value, None, None)
            self.refuses(InvalidWeaving, {"value": value}, is_misses, TWO, value, None)
            self.refuses(InvalidWeaving, {"value": value}, is_against_all, TWO, value, None)
            for call in BY_WEAVING:
                self.refuses(InvalidWeaving, {"value": value}, call, TWO, value)
        for value in WRONG_ORDERS:
            self.refuses(InvalidOrder, {"value": value}, explains, TWO, (0, 0, 1), value)
            self.refuses(InvalidOrder, {"value": value}, explains_in, TWO, Store(1), (0, 0, 1), value)
            self.refuses(InvalidOrder, {"value": value}, miss, TWO, (0, 0, 1), value)
            self.refuses(InvalidOrder, {"value": value}, is_miss, TWO, (0, 0, 1), value, None)
        with self.assertRaises(TooFewNodes) as caught:
            explains_in(TWO, Store(1), (0, 0, 1), (0, 1))
        self.assertEqual((caught.exception.one, caught.exception.other), (1, 2))

    def test_too_many_ties_of_either_weaving(self):
        full = Store(10, FULL_TIES)
        lines = Sessions(2, [[("strike", (0, "c", 0))], [PUT], [("put", (0, "c", 0))]])
        self.too_many("ties", 400, explains_in, lines, full, (1, 0, 2), (0, 1, 2))
        self.too_many("ties", 400, explains_in, lines, full, (0, 1, 2), (1, 0, 2))
        self.is_bool(True, explains_in(Sessions(2, lines.programs()[:2]), full, (0, 1), (0, 1)))
        # The limit is told, also where the weavings are unlike ahead of it.
        heard = Sessions(2, [[ASK, PUT], [("strike", (0, "c", 0))]])
        self.too_many("ties", 400, explains_in, heard, full, (1, 0, 0), (0, 1))


class Misses(Case):
    def test_ordinary(self):
        self.assertIsNone(miss(TWO, (0, 0, 1), (0, 1)))
        self.assertIsNone(misses(TWO, (1, 0, 0)))
        self.assertEqual(list(misses(TWO, (0, 1, 0))), [(0, 1), (1, 0)])
        self.assertEqual([told[0] for told in misses(TWO, (0, 1, 0)).values()], [(0, 1), (0, 0)])
        for store in (Store(2), Store(5, [(1, "a", 0), (3, "b", 3)])):
            self.is_bool(True, is_miss(TWO, (0, 1, 0), (0, 1), ((0, 1), store)))
            self.is_bool(False, is_miss(TWO, (0, 1, 0), (0, 1), ((0, 0), store)))
            self.is_bool(False, is_miss(TWO, (0, 1, 0), (0, 1), (None, store)))
        self.is_bool(False, is_miss(TWO, (0, 1, 0), (0, 1), ((0, 1), Store(2, [(0, "a", 1)]))))
        self.is_bool(False, is_miss(TWO, (0, 1, 0), (0, 1), ((0, 1), Store(1))))
        self.is_bool(True, is_miss(ENDS, (0, 0, 1, 1), (1, 0), (None, Store(3))))
        self.is_bool(False, is_miss(ENDS, (0, 0, 1, 1), (0, 1), (None, Store(3))))

    def test_told_misses_are_such(self):
        rng = random.Random(172)
        many = 0
        for _ in range(120):
            sessions = some_sessions(rng)
            for weaving in rng.sample(weavings(sessions), min(3, len(weavings(sessions)))):
                told = {order: miss(sessions, weaving, order) for order in slow_orders(sessions)}
                for order, found in told.items():
                    self.assertEqual(found is None, explains(sessions, weaving, order))
                    if found is not None:
                        many += 1
                        self.assertTrue(slow_is_miss(sessions, weaving, order, found))
                        self.is_bool(True, is_miss(sessions, weaving, order, found))
                all_of_them = misses(sessions, weaving)
                if None in told.values():
                    self.assertIsNone(all_of_them)
                    continue
                self.assertEqual(list(all_of_them), slow_orders(sessions))
                self.is_bool(True, is_misses(sessions, weaving, all_of_them))
                self.is_bool(True, is_misses(sessions, weaving, dict(reversed(all_of_them.items()))))
        self.assertGreater(many, 300)

    def test_long_words_through_a_tie_of_any_place(self):
        for word in ("a", "ab", "ba", "abcdef", "bcaaef", "fedcba", "aaaaaa"):
            for tie in ((0, "a", 7), (7, "a", 7)):
                sessions = Sessions(8, [[("ask", word), ("ask", word)], [("strike", tie)]])
                for order, found in misses(sessions, (0, 1, 0)).items():
                    self.assertTrue(slow_is_miss(sessions, (0, 1, 0), order, found))

    def test_values_that_are_otherwise(self):
        for spot in ((0, 1), (0, 0), (1, 0), None):
            for value in otherwise((spot, Store(2))):
                for order in ((0, 1), (1, 0)):
                    good = slow_is_miss(TWO, (0, 1, 0), order, value)
                    self.is_bool(good, is_miss(TWO, (0, 1, 0), order, value))
        for spot in (Same(), (Same(), 1), (0, True), (False, 1), [0, 1], (0, 1, 0), (0,), "01", (0, 2), (2, 0)):
            self.is_bool(False, is_miss(TWO, (0, 1, 0), (0, 1), (spot, Store(2))))
        self.is_bool(False, is_miss(TWO, (0, 1, 0), (0, 1), [(0, 1), Store(2)]))

    def test_dicts_that_are_otherwise(self):
        good = misses(TWO, (0, 1, 0))
        for value in otherwise(good):
            told = (type(value) is dict and sorted(map(repr, value)) == ["(0, 1)", "(1, 0)"]
                    and all(slow_is_miss(TWO, (0, 1, 0), order, value[order]) for order in value))
            self.is_bool(told, is_misses(TWO, (0, 1, 0), value))
        first, second = good[0, 1], good[1, 0]
        for value in ({(False, True): first, (1, 0): second}, {(0, 1): second, (1, 0): first}, {(0, 1): first},
                      {(0, 1): first, (1, 0): second, (2, 0): first}, {(0, 1): first, Same(): second},
                      {"01": first, "10": second}, {(0, 1): first, (1, 0, 0): second}, {(0, 1): first, (0, 0): second}):
            self.is_bool(False, is_misses(TWO, (0, 1, 0), value))
        # Misses of all orders but one are none of a weaving that this one explains.
        self.is_bool(False, is_misses(TWO, (0, 0, 1), {(0, 1): first, (1, 0): second}))

    def test_stores_at_the_limit_of_ties_are_none(self):
        full = Store(10, FULL_TIES)
        for sessions in (TWO, Sessions(2, [[ASK, ASK], [("strike", (1, "a", 1)), PUT]])):
            weaving = [0, 1, 0] if sessions is TWO else [0, 1, 1, 0]
            for spot in ((0, 0), (0, 1), None):
                self.is_bool(False, is_miss(sessions, weaving, (0, 1), (spot, full)))
                self.is_bool(False, is_miss(sessions, weaving, (1, 0), (spot, full)))
            self.is_bool(False, is_misses(sessions, weaving, {(0, 1): ((0, 1), full), (1, 0): ((0, 0), full)}))
            self.is_bool(False, is_against_all(sessions, weaving, full))
            less = full - (9, "f", 9)
            self.is_bool(True, is_miss(sessions, weaving, (0, 1), ((0, 1), less)))
            self.is_bool(True, is_against_all(sessions, weaving, less))
        # Here the line comes to the limit in the order's weaving alone, and behind the ask.
        late = Sessions(2, [[("strike", (0, "c", 0))], [ASK, PUT]])
        self.is_bool(False, is_miss(late, (0, 1, 1), (1, 0), (None, full)))
        early = Sessions(2, [[("put", (0, "b", 0))], [("strike", (0, "c", 0)), ASK], [STRIKE]])
        shown = Store(10, FULL_TIES[:-1] + [(0, "a", 1)])
        self.is_bool(False, is_miss(early, (1, 0, 1, 2), (0, 2, 1), ((1, 1), shown)))
        for order in ((2, 0, 1), (2, 1, 0)):
            self.is_bool(True, is_miss(early, (1, 0, 1, 2), order, ((1, 1), shown)))


    def test_weavings_at_the_limit_of_ties(self):
        full = Store(10, FULL_TIES)
        lines = Sessions(2, [[ASK, ASK], [PUT], [("strike", (0, "c", 0))]])
        # Some orders come to the limit in it, all others are against the weaving.
        self.is_bool(False, is_against_all(lines, (2, 0, 1, 0), full))
        self.is_bool(True, is_against_all(lines, (2, 0, 1, 0), full - (9, "f", 9)))
        # Here the weaving itself comes to it, and not the order's.
        self.is_bool(False, is_miss(lines, (0, 1, 0, 2), (2, 0, 1), ((0, 1), full)))
        self.is_bool(False, is_against_all(Sessions(2, [[ASK], [("strike", (0, "c", 0))]]), (0, 1), full))
        late = Sessions(2, [[PUT, ("strike", (0, "c", 0))], [("strike", (0, "c", 0))]])
        self.is_bool(False, is_miss(late, (0, 0, 1), (1, 0), (None, full)))

    def test_one_session_is_never_missed(self):
        alone = Sessions(2, [[ASK, PUT, ASK]])
        self.assertIsNone(misses(alone, (0, 0, 0)))
        for value in ({(0,): ((0, 2), Store(2))}, {(0,): (None, Store(2))}, {}, {(1,): (None, Store(2))}):
            self.is_bool(False, is_misses(alone, [0, 0, 0], value))


class Everywhere(Case):
    def test_ordinary(self):
        self.assertIsNone(everywhere(TWO, (0, 1, 0)))
        self.assertEqual(everywhere(TWO, [0, 0, 1]), {(): (0, 1), ((0, "a", 1),): (0, 1)})
        self.assertEqual(everywhere(TWO, [1, 0, 0]), {(): (1, 0), ((0, "a", 1),): (0, 1)})
        self.assertEqual(everywhere(Sessions(1, [[ASK]]), [0]), {(): (0,)})
        self.assertIsNone(against_all(TWO, (0, 0, 1)))
        self.is_bool(True, is_against_all(TWO, (0, 1, 0), Store(2)))
        self.is_bool(False, is_against_all(TWO, (0, 1, 0), Store(2, [(0, "a", 1)])))
        self.is_bool(False, is_against_all(sessions=TWO, weaving=(0, 0, 1), value=Store(2)))

    def test_explained_everywhere_but_by_no_one_order(self):
        self.assertIsNone(order_for(MIXED, EARLY))
        self.assertIsNotNone(misses(MIXED, EARLY))
        self.assertIsNone(against_all(MIXED, EARLY))
        self.assertEqual(everywhere(MIXED, EARLY), {
            (): (1, 0, 2), ((0, "a", 1),): (1, 2, 0), ((0, "a", 1), (1, "a", 0)): (1, 2, 0), ((1, "a", 0),): (1, 0, 2),
        })
        self.assertEqual(list(everywhere(MIXED, EARLY)), touched_sets(MIXED))

    def test_against_stores(self):
        rng = random.Random(173)
        kinds = {True: 0, False: 0}
        for _ in range(80):
            sessions = some_sessions(rng, longest=2, ties=[(0, "a", 1), (1, "a", 0), (1, "b", 1)])
            for weaving in rng.sample(weavings(sessions), min(3, len(weavings(sessions)))):
                told = {}
                for there in touched_sets(sessions):
                    able = [order for order in slow_orders(sessions)
                            if slow_explains_with(sessions, weaving, order, there)]
                    told[there] = able[0] if able else None
                found, store = everywhere(sessions, weaving), against_all(sessions, list(weaving))
                kinds[None in told.values()] += 1
                if None in told.values():
                    self.assertIsNone(found)
                    self.is_bool(True, is_against_all(sessions, weaving, store))
                    for order in slow_orders(sessions):
                        self.assertFalse(slow_explains_in(sessions, store.nodes, store.ties(), weaving, order))
                else:
                    self.assertIsNone(store)
                    self.assertEqual((found, list(found)), (told, touched_sets(sessions)))
        self.assertGreater(min(kinds.values()), 25)

    def test_values_that_are_otherwise(self):
        for value in wrong_values() + [Store, [Store(2)], Store(1), (None, Store(2)), TWO, Odd(), "Store(2, [])"]:
            self.is_bool(False, is_against_all(TWO, (0, 1, 0), value))
        rng = random.Random(174)
        for _ in range(40):
            sessions = some_sessions(rng)
            weaving = rng.choice(weavings(sessions))
            store = some_store(rng, rng.randint(1, 4), rng.randint(0, 5), "ab")
            good = store.nodes >= 2 and not any(slow_explains_in(sessions, store.nodes, store.ties(), weaving, order)
                                                for order in slow_orders(sessions))
            self.is_bool(good, is_against_all(sessions, weaving, store))

    def test_rows_of_six_orders_in_one_store(self):
        asks = [[("ask", word), ("put", (at, "a", 7)), ("ask", word)] for at, word in enumerate(("abcdef", "fedcba", "ffaaff"))]
        sessions = Sessions(8, asks)
        store = against_all(sessions, (0, 1, 2) * 3)
        self.is_bool(True, is_against_all(sessions, (0, 1, 2) * 3, store))
        self.assertLessEqual(store.nodes, 40)


class AllWeavings(Case):
    def test_ordinary(self):
        self.assertEqual(first_missed(TWO), (0, 1, 0))
        self.assertEqual(how_many_missed(TWO), 1)
        self.assertIsNone(order_table(TWO))
        plain = Sessions(2, [[PUT, PUT], [ASK]])
        self.assertIsNone(first_missed(sessions=plain))
        self.assertEqual(how_many_missed(sessions=plain), 0)
        self.assertEqual(order_table(sessions=plain), {(0, 0, 1): (0, 1), (0, 1, 0): (0, 1), (1, 0, 0): (1, 0)})
        self.assertEqual(list(order_table(plain)), weavings(plain))

    def test_against_one_by_one(self):
        rng = random.Random(175)
        for _ in range(25):
            sessions = some_sessions(rng, longest=2, ties=[(0, "a", 1), (1, "b", 1)])
            missed = [weaving for weaving in weavings(sessions) if slow_is_missed(sessions, weaving)]
            self.assertEqual(first_missed(sessions), missed[0] if missed else None)
            self.assertEqual(how_many_missed(sessions), len(missed))
            told = None if missed else {weaving: order_for(sessions, weaving) for weaving in weavings(sessions)}
            self.assertEqual(order_table(sessions), told)

    def test_three_programs_of_three_lines(self):
        ties = [(x, "ab"[x % 2], y) for x in range(8) for y in (1, 6)]
        lines = itertools.cycle([("put", tie) for tie in ties[:5]] + [("ask", "abab"), ("strike", ties[2])])
        sessions = Sessions(8, [[next(lines) for _ in range(3)] for _ in range(3)])
        weaving = first_missed(sessions)
        self.assertTrue(0 < how_many_missed(sessions) < 1680)
        self.is_bool(True, is_misses(sessions, weaving, misses(sessions, weaving)))
        puts = Sessions(8, [[("put", ties[3 * one + other]) for other in range(3)] for one in range(3)])
        self.assertEqual(set(order_table(puts).values()), {(0, 1, 2)})
        found = everywhere(puts, (0, 1, 2) * 3)
        self.assertEqual((len(found), set(found.values())), (512, {(0, 1, 2)}))


if __name__ == "__main__":
    unittest.main()
