"""Points [71] and [72] as far as marks, and netkeep/weaving.py: sessions that run woven into one another."""

import itertools
import random
import unittest

from netkeep.answers import pairs
from netkeep.errors import InvalidNodes, InvalidOrder
from netkeep.faults import InvalidPrograms, InvalidWeaving, TooFewNodes, UnknownSpot
from netkeep.store import Store
from netkeep.weaving import Sessions, behind, heard, is_weaving, marks, weaving_of, weavings
from support import Case, Odd, Same, otherwise, some_store, wrong_values

ASK, PUT, STRIKE = ("ask", "a"), ("put", (0, "a", 1)), ("strike", (0, "a", 1))
TWO = Sessions(2, [[ASK, ASK], [PUT]])
THREE = Sessions(3, [[PUT, ("ask", "ab"), STRIKE], [("put", (1, "b", 2)), ("ask", "b")], [("ask", "abbbaa"), ("strike", (2, "f", 0))]])
FULL = Sessions(8, [[ASK] * 3, [PUT] * 3, [STRIKE] * 3])
WRONG_SPOTS = wrong_values() + [(0, 2), (2, 0), (1, 1), (-1, 0), (0, -1), [0, 0], (0, False), (False, 0), (True, 0), (0, 0, 0), (0,),
                                "00", 0]
WRONG_WEAVINGS = [[0, 1], [0, 0, 0, 1], [0, 0, 2], [1, 1, 0], [0, 0, True], [False, 0, 1], [0, 0, -1], "001", {0: 0, 1: 1},
                  [0, [0], 1], [0, 0, None], [[0, 0, 1]]]


def some_sessions(rng):
    """Sessions, as the random source tells."""
    nodes = rng.randint(1, 3)
    ties = [(x, letter, y) for x in range(nodes) for letter in "ab" for y in range(nodes)]

    def line():
        kind = rng.choice(("ask", "put", "strike"))
        return (kind, rng.choice(("a", "b", "ab", "ba", "aba")) if kind == "ask" else rng.choice(ties))

    return Sessions(nodes, [[line() for _ in range(rng.randint(1, 3))] for _ in range(rng.randint(1, 3))])


def slow_lines(sessions, weaving):
    """The spots and the lines in the sequence in which they are done."""
    left = [iter(list(enumerate(program))) for program in sessions.programs()]
    for number in weaving:
        at, line = next(left[number])
        yield (number, at), line


class Made(Case):
    def test_parts(self):
        self.assertEqual(TWO.nodes, 2)
        self.assertEqual(TWO.programs(), [[ASK, ASK], [PUT]])
        self.assertEqual(TWO.spots(), [(0, 0), (0, 1), (1, 0)])
        self.assertEqual(TWO.asks(), [(0, 0), (0, 1)])
        self.assertEqual(THREE.asks(), [(0, 1), (1, 1), (2, 0)])
        self.assertEqual(TWO.touched(), [(0, "a", 1)])
        self.assertEqual(THREE.touched(), [(0, "a", 1), (1, "b", 2), (2, "f", 0)])
        self.assertEqual(FULL.touched(), [(0, "a", 1)])
        self.assertEqual(Sessions(1, [[ASK]]).touched(), [])
        self.assertEqual(TWO.orders(), [(0, 1), (1, 0)])
        self.assertEqual(THREE.orders(), sorted(itertools.permutations(range(3))))
        self.assertEqual(Sessions(1, [[ASK]]).orders(), [(0,)])
        self.assertEqual((len(TWO), len(THREE), len(FULL)), (3, 7, 9))
        self.assertEqual(repr(TWO), "Sessions(2, [[('ask', 'a'), ('ask', 'a')], [('put', (0, 'a', 1))]])")
        self.assertEqual((Sessions.MOST_NODES, Sessions.MOST_SESSIONS, Sessions.MOST_LINES), (8, 3, 3))

    def test_copies_and_new_lists(self):
        programs = [[ASK], [PUT]]
        sessions = Sessions(2, programs)
        programs[0].append(PUT)
        programs.append([PUT])
        for told in (sessions.programs(), sessions.spots(), sessions.asks(), sessions.touched(), sessions.orders()):
            told.append("x")
        sessions.programs()[0].append("x")
        self.assertEqual(sessions.programs(), [[ASK], [PUT]])
        self.assertEqual(Sessions(nodes=2, programs=((ASK,), (PUT,))).programs(), [[ASK], [PUT]])

    def test_spots(self):
        self.assertEqual([TWO[spot] for spot in TWO.spots()], [ASK, ASK, PUT])
        for value in WRONG_SPOTS:
            self.refuses(UnknownSpot, {"value": value}, lambda: TWO[value])
        with self.assertRaises(LookupError):
            TWO[0, 3]

    def test_not_iterated_over(self):
        for call in (list, iter, tuple, sorted, lambda told: [line for line in told], lambda told: ASK in told):
            with self.assertRaises(TypeError):
                call(TWO)

    def test_equal(self):
        self.assertTrue(TWO == Sessions(2, ((ASK, ASK), (PUT,))))
        self.assertFalse(TWO != Sessions(2, ((ASK, ASK), (PUT,))))
        for other in (Sessions(3, TWO.programs()), Sessions(2, [[PUT], [ASK, ASK]]), Sessions(2, [[ASK], [PUT]]), None,
                      TWO.programs(), repr(TWO), Odd(), 0):
            self.assertTrue(TWO != other)
            self.assertFalse(TWO == other)


class Wrong(Case):
    def test_nodes(self):
        for value in (0, 41, -1, True, None, "2", [2], Odd()):
            self.refuses(InvalidNodes, {"value": value}, Sessions, value, None)

    def test_programs(self):
        for value in (None, True, 0, "abc", "", {}, {"a": 1}, [], (), Odd(), TWO):
            self.refuses(InvalidPrograms, {"position": None}, Sessions, 2, value)
        for value in (None, True, 0, "abc", "", {}, {0: ASK}, [], (), ASK, PUT, Odd()):
            self.refuses(InvalidPrograms, {"position": 1}, Sessions, 2, [[ASK], value])
            self.refuses(InvalidPrograms, {"position": 4}, Sessions, 9, [[ASK]] * 4 + [value, None])
        lines = wrong_values() + [("ask", "a" * 7), ("ask", ""), ("ask", "aB"), ("ask", None), ("ask", PUT[1]), ["ask", "a"],
                                  ("put", (0, "a", 2)), ("put", (2, "a", 0)), ("put", (0, "a", True)), ("put", [0, "a", 1]),
                                  ("put", "a"), ("strike", (0, "g", 1)), ("strike",), ("tell", "a"), (None, "a"),
                                  ("ask", "a", 0), ("ASK", "a"), (0, (0, "a", 1)),
                                  ("tell", (0, "a", 1)), (Same(), "a"), (Same(), (0, "a", 1))]
        for value in lines:
            self.refuses(InvalidPrograms, {"position": 0}, Sessions, 2, [[ASK, value]])
            self.refuses(InvalidPrograms, {"position": 1}, Sessions, 2, [[ASK], (value,), [None]])
        # The ties are looked at with so many nodes, also if these are too many.
        self.refuses(InvalidPrograms, {"position": 0}, Sessions, 9, [[("put", (9, "a", 0))]])

    def test_too_many(self):
        four = [ASK] * 4
        self.too_many("nodes", 8, Sessions, 9, [four] * 4)
        self.too_many("nodes", 8, Sessions, 40, [[("put", (39, "a", 39))]])
        self.too_many("sessions", 3, Sessions, 8, [four] * 4)
        self.too_many("lines", 3, Sessions, 8, [[ASK], [ASK], four])
        self.assertEqual(len(Sessions(8, [[ASK] * 3] * 3)), 9)
        self.assertEqual(Sessions(8, [[("ask", "abcdef")]])[0, 0], ("ask", "abcdef"))


class Weavings(Case):
    def test_ordinary(self):
        self.assertEqual(weavings(TWO), [(0, 0, 1), (0, 1, 0), (1, 0, 0)])
        self.assertEqual(weavings(sessions=Sessions(1, [[ASK] * 3])), [(0, 0, 0)])
        self.assertEqual(len(weavings(FULL)), 1680)
        for sessions in (TWO, THREE, FULL):
            numbers = [number for number, _ in sessions.spots()]
            if len(numbers) < 8:
                self.assertEqual(weavings(sessions), sorted(set(itertools.permutations(numbers))))
            self.assertEqual(weavings(sessions), sorted(set(weavings(sessions))))
            for weaving in weavings(sessions)[::7]:
                self.is_bool(True, is_weaving(sessions, weaving))
                self.is_bool(True, is_weaving(sessions=sessions, value=list(weaving)))

    def test_values_that_are_otherwise(self):
        for value in WRONG_WEAVINGS:
            self.is_bool(False, is_weaving(TWO, value))
        for value in otherwise([0, 1, 0]):
            good = (type(value) in (list, tuple) and all(type(one) is int for one in value) and sorted(value) == [0, 0, 1])
            self.is_bool(good, is_weaving(TWO, value))

    def test_weaving_of(self):
        self.assertEqual(weaving_of(TWO, (1, 0)), (1, 0, 0))
        self.assertEqual(weaving_of(sessions=THREE, order=[2, 0, 1]), (2, 2, 0, 0, 0, 1, 1))
        for value in wrong_values() + [(0,), (0, 0), (0, 1, 2), (0, True), (False, 1), "01", {0: 0, 1: 1}, (0, 2), (-1, 0)]:
            self.refuses(InvalidOrder, {"value": value}, weaving_of, TWO, value)


class Marks(Case):
    def test_ordinary(self):
        self.assertEqual(marks(TWO, [0, 1, 0], (0, 1)), {(0, "a", 1): True})
        self.assertEqual(marks(TWO, [0, 1, 0], (0, 0)), {})
        self.assertEqual(marks(TWO, [0, 1, 0], (1, 0)), {})
        self.assertEqual(marks(sessions=TWO, weaving=(0, 0, 1), spot=None), {(0, "a", 1): True})
        both = Sessions(2, [[("put", (1, "a", 0)), PUT], [STRIKE]])
        self.assertEqual(marks(both, (0, 0, 1)), {(0, "a", 1): False, (1, "a", 0): True})
        self.assertEqual(marks(both, (1, 0, 0)), {(0, "a", 1): True, (1, "a", 0): True})
        self.assertEqual(list(marks(both, (0, 0, 1))), [(0, "a", 1), (1, "a", 0)])

    def test_errors_in_sequence(self):
        for value in WRONG_WEAVINGS + wrong_values():
            self.refuses(InvalidWeaving, {"value": value}, marks, TWO, value, 0)
            self.refuses(InvalidWeaving, {"value": value}, heard, TWO, Store(1), value)
            self.refuses(InvalidWeaving, {"value": value}, behind, TWO, Store(1), value)
        for value in WRONG_SPOTS:
            if value is not None:
                self.refuses(UnknownSpot, {"value": value}, marks, TWO, [0, 0, 1], value)
        for call in (heard, behind):
            with self.assertRaises(TooFewNodes) as caught:
                call(TWO, Store(1), [0, 0, 1])
            self.assertEqual((caught.exception.one, caught.exception.other), (1, 2))

    def test_against_line_by_line(self):
        rng = random.Random(161)
        for _ in range(60):
            sessions = some_sessions(rng)
            store = some_store(rng, rng.randint(sessions.nodes, 4), rng.randint(0, 6), "ab")
            for weaving in rng.sample(weavings(sessions), min(8, len(weavings(sessions)))):
                self.look_at(sessions, store, weaving)

    def look_at(self, sessions, store, weaving):
        told, now, hears = {}, set(store.ties()), {}
        for spot, (kind, worth) in slow_lines(sessions, weaving):
            self.assertEqual(marks(sessions, weaving, spot), told)
            if kind == "ask":
                hears[spot] = pairs(Store(store.nodes, sorted(now)), worth)
            else:
                told[worth] = kind == "put"
                now = now | {worth} if kind == "put" else now - {worth}
        self.assertEqual(marks(sessions, weaving), told)
        self.assertEqual(list(marks(sessions, list(weaving))), sorted(told))
        self.assertEqual(heard(sessions, store, weaving), hears)
        self.assertEqual(list(heard(sessions, store, weaving)), sessions.asks())
        self.assertEqual(behind(sessions, store, weaving), Store(store.nodes, sorted(now)))


class Heard(Case):
    def test_ordinary(self):
        self.assertEqual(heard(TWO, Store(2), [0, 1, 0]), {(0, 0): [], (0, 1): [(0, 1)]})
        self.assertEqual(heard(sessions=TWO, store=Store(3, [(2, "a", 2)]), weaving=(1, 0, 0)),
                         {(0, 0): [(0, 1), (2, 2)], (0, 1): [(0, 1), (2, 2)]})
        self.assertEqual(behind(sessions=TWO, store=Store(2), weaving=(0, 1, 0)), Store(2, [(0, "a", 1)]))
        self.assertEqual(heard(Sessions(1, [[("put", (0, "a", 0))]]), Store(1), [0]), {})
        store = Store(2)
        behind(TWO, store, [0, 0, 1])
        self.assertEqual(store, Store(2))

    def test_what_is_told_is_new(self):
        told = heard(TWO, Store(2, [(0, "a", 1)]), [1, 0, 0])
        told[0, 0].clear()
        self.assertEqual(told[0, 1], [(0, 1)])

    def test_too_many_ties(self):
        full = Store(20, [(x, "f", y) for x in range(20) for y in range(20)])
        both = Sessions(2, [[PUT, STRIKE], [("strike", (0, "f", 0))]])
        for call in (heard, behind):
            self.too_many("ties", 400, call, TWO, full, [0, 0, 1])
            self.too_many("ties", 400, call, both, full, [0, 1, 0])
            self.too_many("ties", 400, call, both, full, [0, 0, 1])
            call(both, full, [1, 0, 0])
        self.assertEqual(len(behind(both, full, [1, 0, 0])), 399)

    def test_nine_lines_on_forty_nodes(self):
        store = Store(40, [(x, "a", (x + 1) % 40) for x in range(40)])
        told = heard(FULL, store, (1, 2, 0) * 3)
        self.assertEqual([len(told[spot]) for spot in told], [39, 39, 39])


if __name__ == "__main__":
    unittest.main()
