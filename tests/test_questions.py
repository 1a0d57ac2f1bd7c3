"""Points [21], [22] and [23], and netkeep/questions.py: questions, what they read and what they are answered."""

import random
import unittest

from netkeep.answers import pairs
from netkeep.errors import InvalidEnds, InvalidNode, InvalidOrder, InvalidSigns, InvalidStandings, InvalidSteps
from netkeep.questions import Question, asked, denial, is_denial, is_reason, reason, row_of
from netkeep.store import Store
from support import (
    SIGNS, Case, Odd, all_strings, come_to, moves, row_ties, slow_asked, slow_reads, some_question, some_store,
    wrong_values,
)

WRONG_STEPS = wrong_values() + [(0, "a", 2), (2, "a", 0), (-1, "a", 0), (0, "g", 1), (0, "G", 1), (0, "", 1),
                                (0, "aA", 1), (False, "a", 1), (0, "a", True), (0, None, 1), (0, ["a"], 1),
                                [0, "a", 1], (0, "a"), (0, "a", 1, 0), ("0", "a", 1)]
WRONG_SIGNS = [None, True, 0, [], ["a"], ("a",), "g", "aG", "a ", "abc1", b"a", {}, Odd(), "a" * 61, "\n"]
FORK = Store(3, [(0, "a", 1), (0, "a", 2), (1, "b", 2), (2, "b", 2)])


class Made(Case):
    def test_parts(self):
        question = Question(3, [(2, "a", 0), (0, "A", 1), (0, "a", 1)], [2, 1])
        self.assertEqual(question.standings, 3)
        self.assertEqual(question.steps(), [(0, "A", 1), (0, "a", 1), (2, "a", 0)])
        self.assertEqual(question.ends(), [1, 2])
        self.assertEqual(question.signs(), "Aa")
        self.assertEqual(repr(question), "Question(3, [(0, 'A', 1), (0, 'a', 1), (2, 'a', 0)], [1, 2])")
        self.assertEqual(repr(Question(2, [(0, "a", 1)], [1])), "Question(2, [(0, 'a', 1)], [1])")
        self.assertEqual(repr(Question(1, (), ())), "Question(1, [], [])")

    def test_tuples_and_names(self):
        self.assertEqual(Question(standings=2, steps=((0, "a", 1),), ends=(1,)), Question(2, [(0, "a", 1)], [1]))

    def test_one_and_nine_standings(self):
        self.assertEqual(Question.MOST_STANDINGS, 9)
        self.assertEqual(Question(1, [], [0]).ends(), [0])
        every = [(p, sign, q) for p in range(9) for sign in SIGNS for q in range(9)]
        full = Question(9, every[::-1], list(range(9))[::-1])
        self.assertEqual((full.steps(), full.ends(), full.signs()), (every, list(range(9)), SIGNS))
        for standings in range(1, 10):
            self.assertEqual(Question(standings, [], []).standings, standings)

    def test_wrong_standings(self):
        for value in (0, 10, -1, True, False, None, "3", [3], 10 ** 20, Odd()):
            self.refuses(InvalidStandings, {"value": value}, Question, value, None, None)

    def test_wrong_steps(self):
        for value in (None, 0, True, "abc", "", {}, {(0, "a", 1)}, Odd()):
            self.refuses(InvalidSteps, {"position": None}, Question, 2, value, None)
        for value in WRONG_STEPS:
            self.refuses(InvalidSteps, {"position": 0}, Question, 2, [value], None)
            self.refuses(InvalidSteps, {"position": 2}, Question, 2, ((0, "a", 1), (0, "A", 1), value, value), None)
        self.refuses(InvalidSteps, {"position": 1}, Question, 2, [(0, "a", 1), (0, "a", 1), None], None)

    def test_wrong_ends(self):
        for value in (None, 0, True, "1", "", {}, {1}, {1: 1}, Odd()):
            self.refuses(InvalidEnds, {"position": None}, Question, 2, [], value)
        for value in (2, -1, True, False, None, "1", [1], (1,), Odd()):
            self.refuses(InvalidEnds, {"position": 0}, Question, 2, [], [value])
            self.refuses(InvalidEnds, {"position": 1}, Question, 2, [], (1, value, value))
        self.refuses(InvalidEnds, {"position": 2}, Question, 2, [], [1, 0, 1, 5])

    def test_copies_and_new_lists(self):
        steps, ends = [(1, "a", 0), (0, "a", 1)], [1, 0]
        question = Question(2, steps, ends)
        self.assertEqual((steps, ends), ([(1, "a", 0), (0, "a", 1)], [1, 0]))
        steps.clear(), ends.clear()
        question.steps().clear(), question.ends().clear(), question.goals(0, "a").clear()
        self.assertEqual(question, Question(2, [(0, "a", 1), (1, "a", 0)], [0, 1]))
        self.assertEqual(question.goals(0, "a"), [1])

    def test_equal(self):
        question = Question(3, [(0, "a", 1), (1, "B", 2)], [2])
        self.assertTrue(question == Question(3, ((1, "B", 2), (0, "a", 1)), (2,)))
        self.assertFalse(question != Question(3, ((1, "B", 2), (0, "a", 1)), (2,)))
        for other in (Question(4, question.steps(), [2]), Question(3, question.steps()[:1], [2]),
                      Question(3, question.steps(), [1, 2]), question.steps(), repr(question), Store(3), None):
            self.assertFalse(question == other)
            self.assertTrue(question != other)

    def test_not_iterated_over(self):
        with self.assertRaises(TypeError):
            iter(Question(1, [], []))


class Looked(Case):
    def setUp(self):
        self.question = Question(3, [(0, "a", 2), (0, "a", 1), (1, "A", 0), (2, "b", 2)], [2])

    def test_goals(self):
        self.assertEqual(self.question.goals(0, "a"), [1, 2])
        self.assertEqual(self.question.goals(standing=1, sign="A"), [0])
        self.assertEqual(self.question.goals(1, "a"), [])

    def test_goals_of_wrong_values(self):
        for value in (3, -1, True, False, None, "0", [0], Odd()):
            self.refuses(InvalidStandings, {"value": value}, self.question.goals, value, None)
        for value in ("", "g", "aA", "G", None, 0, True, ["a"], Odd()):
            self.refuses(InvalidSigns, {"value": value}, self.question.goals, 0, value)

    def test_reads(self):
        for signs in ("a", "ab", "aAa", "aAaAabb"):
            self.is_bool(True, self.question.reads(signs))
        for signs in ("", "A", "b", "aA", "aa", "ba"):
            self.is_bool(False, self.question.reads(signs=signs))
        self.is_bool(True, Question(1, [], [0]).reads(""))
        self.is_bool(False, Question(1, [], []).reads(""))
        self.is_bool(False, Question(2, [(0, "a", 1)], [1]).reads(""))

    def test_reads_sixty_signs(self):
        self.is_bool(True, self.question.reads("a" + "b" * 59))
        self.is_bool(True, self.question.reads("aA" * 29 + "ab"))
        self.is_bool(False, self.question.reads("aA" * 30))
        self.refuses(InvalidSigns, {}, self.question.reads, "a" + "b" * 60)

    def test_reads_wrong_values(self):
        for value in WRONG_SIGNS:
            self.refuses(InvalidSigns, {"value": value}, self.question.reads, value)

    def test_reads_against_steps(self):
        rng = random.Random(31)
        for _ in range(20):
            question = some_question(rng, rng.randint(1, 4), rng.randint(0, 10), "aAb")
            for signs in all_strings(4, "aAb"):
                self.is_bool(slow_reads(question, signs), question.reads(signs))

    def test_trimmed(self):
        self.assertEqual(self.question.trimmed(), self.question)
        some = Question(5, [(0, "a", 1), (0, "a", 3), (2, "a", 3), (3, "b", 3), (3, "c", 4)], [3])
        self.assertEqual(some.trimmed(), Question(2, [(0, "a", 1), (1, "b", 1)], [1]))
        self.assertEqual(Question(4, [(0, "a", 2), (2, "B", 3)], [3, 1]).trimmed(),
                         Question(3, [(0, "a", 1), (1, "B", 2)], [2]))

    def test_trimmed_keeps_the_sequence(self):
        question = Question(4, [(0, "a", 3), (0, "b", 1), (1, "c", 3), (3, "d", 1)], [3])
        self.assertEqual(question.trimmed(), Question(3, [(0, "a", 2), (0, "b", 1), (1, "c", 2), (2, "d", 1)], [2]))

    def test_trimmed_keeps_0_with_its_loops(self):
        self.assertEqual(Question(3, [(0, "a", 0), (0, "A", 0), (0, "a", 1), (1, "b", 0)], [2]).trimmed(),
                         Question(1, [(0, "A", 0), (0, "a", 0)], []))
        self.assertEqual(Question(2, [(0, "a", 1)], [0]).trimmed(), Question(1, [], [0]))
        self.assertEqual(Question(2, [(0, "a", 1), (1, "a", 0)], [0]).trimmed(),
                         Question(2, [(0, "a", 1), (1, "a", 0)], [0]))
        self.assertEqual(Question(3, [], [0, 1, 2]).trimmed(), Question(1, [], [0]))

    def test_trimmed_reads_the_same(self):
        rng = random.Random(32)
        for _ in range(40):
            question = some_question(rng, rng.randint(1, 5), rng.randint(0, 8), "aAb")
            trimmed = question.trimmed()
            self.assertLessEqual(trimmed.standings, question.standings)
            self.assertEqual(trimmed.trimmed(), trimmed)
            for signs in all_strings(4, "aAb"):
                self.assertEqual(trimmed.reads(signs), question.reads(signs))

    def test_renumbered(self):
        self.assertEqual(self.question.renumbered([0, 2, 1]),
                         Question(3, [(0, "a", 1), (0, "a", 2), (1, "b", 1), (2, "A", 0)], [1]))
        self.assertEqual(self.question.renumbered(order=(0, 1, 2)), self.question)
        four = Question(4, [(1, "a", 2), (2, "a", 3)], [1])
        self.assertEqual(four.renumbered([0, 3, 1, 2]), Question(4, [(2, "a", 3), (3, "a", 1)], [2]))

    def test_wrong_orders(self):
        for value in (None, 0, "012", [0, 1], [1, 0, 2], [0, 1, 1], [0, 1, 2, 3], [0, 1, 3], [False, 1, 2],
                      [0, True, 2], [0, None, 2], [0, [1], 2], {0: 0, 1: 1, 2: 2}, (), Odd(), [Odd(), 1, 2]):
            self.refuses(InvalidOrder, {"value": value}, self.question.renumbered, value)

    def test_of(self):
        self.assertEqual(Question.of(""), Question(1, [], [0]))
        self.assertEqual(Question.of("aA"), Question(3, [(0, "a", 1), (1, "A", 2)], [2]))
        self.assertEqual(Question.of(signs="abcdefAB").standings, 9)
        question = Question.of("aAb")
        self.assertEqual([signs for signs in all_strings(4, "aAb") if question.reads(signs)], ["aAb"])
        for value in WRONG_SIGNS + ["a" * 9, "abcdefABC", "A" * 60]:
            self.refuses(InvalidSigns, {"value": value}, Question.of, value)

    def test_stays(self):
        steps = self.question.steps()
        self.question.trimmed(), self.question.renumbered([0, 2, 1]), self.question.reads("a")
        for call in (self.question.reads, self.question.renumbered):
            with self.assertRaises(ValueError):
                call(None)
        self.assertEqual((self.question.standings, self.question.steps(), self.question.ends()), (3, steps, [2]))


class Asked(Case):
    def test_ordinary(self):
        self.assertEqual(asked(FORK, Question.of("aAa")), [(0, 1), (0, 2)])
        self.assertEqual(asked(FORK, Question.of("")), [(0, 0), (1, 1), (2, 2)])
        self.assertEqual(asked(store=FORK, question=Question(1, [], [])), [])
        self.assertEqual(asked(FORK, Question(1, [(0, "b", 0), (0, "B", 0)], [0])),
                         [(0, 0), (1, 1), (1, 2), (2, 1), (2, 2)])
        self.assertEqual(asked(FORK, Question.of("ab")), pairs(FORK, "ab"))

    def test_reason(self):
        there = Question(2, [(0, "b", 1), (1, "B", 1)], [1])
        self.assertEqual(reason(FORK, there, 1, 2), [(1, 0), (2, 1)])
        self.assertEqual(reason(FORK, there, 1, 1), [(1, 0), (2, 1), (1, 1)])
        self.assertEqual(reason(FORK, there, start=0, end=0), None)
        self.assertEqual(reason(FORK, Question.of(""), 1, 1), [(1, 0)])
        self.assertEqual(reason(FORK, Question(1, [], []), 1, 1), None)

    def test_reason_is_the_first_of_the_shortest(self):
        store = Store(4, [(0, "a", 2), (0, "a", 1), (1, "a", 3), (2, "a", 3)])
        self.assertEqual(reason(store, Question.of("aa"), 0, 3), [(0, 0), (1, 1), (3, 2)])
        both = Question(3, [(0, "a", 2), (0, "a", 1), (1, "a", 0), (2, "a", 0)], [0])
        self.assertEqual(reason(store, both, 0, 3), [(0, 0), (1, 1), (3, 0)])

    def test_against_places(self):
        rng = random.Random(33)
        for _ in range(60):
            store = some_store(rng, rng.randint(1, 4), rng.randint(0, 8), "ab")
            question = some_question(rng, rng.randint(1, 4), rng.randint(0, 8), "aAbB")
            ties = set(store.ties())
            answer = slow_asked(store.nodes, ties, question)
            self.assertEqual(asked(store, question), answer)
            for x in range(store.nodes):
                for y in range(store.nodes):
                    self.look_at_pair(store, ties, question, (x, y), answer)

    def look_at_pair(self, store, ties, question, pair, answer):
        found, denied = reason(store, question, *pair), denial(store, question, *pair)
        self.assertEqual((found is not None, denied is None), (pair in answer, pair in answer))
        self.is_bool(pair in answer, is_reason(store, question, *pair, found))
        self.is_bool(pair not in answer, is_denial(store, question, *pair, denied))
        if found is None:
            places = come_to(store.nodes, ties, question.steps(), (pair[0], 0))
            self.assertTrue(places <= set(denied))
            self.is_bool(True, is_denial(store, question, *pair, tuple(denied[::-1])))
            for place in places:
                self.is_bool(False, is_denial(store, question, *pair, [one for one in denied if one != place]))
            return
        self.assertEqual(found, self.slow_reason(store, ties, question, pair))
        self.is_bool(True, is_reason(store, question, *pair, tuple(found)))

    def slow_reason(self, store, ties, question, pair):
        paths = [[(pair[0], 0)]]
        while True:
            over = [path for path in paths if path[-1][0] == pair[1] and path[-1][1] in question.ends()]
            if over:
                return min(over)
            least = {}
            for path in paths:
                for place in moves(store.nodes, ties, question.steps(), path[-1]):
                    least[place] = min(least.get(place, path + [place]), path + [place])
            paths = list(least.values())

    def test_is_reason_of_any_value(self):
        question = Question(2, [(0, "a", 1), (1, "A", 0)], [1])
        good = [(0, 0), (1, 1), (0, 0), (2, 1)]
        self.is_bool(True, is_reason(FORK, question, 0, 2, good))
        self.is_bool(True, is_reason(store=FORK, question=question, start=0, end=2, value=tuple(good)))
        for value in wrong_values() + [good[:-1], good[1:], good + [(0, 0)], [(0, 0), (2, 0)], [(0, 0), (2, 2)],
                                       [[0, 0], [2, 1]], [(False, 0), (2, 1)], [(0, False), (2, 1)],
                                       [(0, 0), (2, True)], [(0, 0), (2, 1, 0)], [(0, 0), (2,)], [(0, 0), (3, 1)],
                                       [(0, 0), (0, 1)], [(0, 0), (2, -1)], [(0, 0), Odd()], {(0, 0): 1, (2, 1): 1}]:
            self.is_bool(False, is_reason(FORK, question, 0, 2, value))

    def test_is_denial_of_any_value(self):
        question = Question(2, [(0, "a", 1), (1, "A", 0)], [1])
        good = [(0, 0), (1, 1), (2, 1)]
        self.is_bool(True, is_denial(FORK, question, 0, 0, good))
        self.is_bool(True, is_denial(store=FORK, question=question, start=0, end=0, value=tuple(good[::-1])))
        self.is_bool(True, is_denial(FORK, question, 0, 0, good + [(2, 0), (1, 0)]))
        for value in wrong_values() + [good[:2], good[1:], good + [(1, 1)], good + [(0, 1)], good + [(3, 0)],
                                       good + [[1, 0]], good + [(1, False)], good + [(True, 0)], good + [(1, 2)],
                                       good + [Odd()], {(0, 0): 1, (1, 1): 1, (2, 1): 1}]:
            self.is_bool(False, is_denial(FORK, question, 0, 0, value))
        self.is_bool(False, is_denial(FORK, question, 0, 1, good))
        self.is_bool(True, is_denial(FORK, Question(2, [], []), 1, 1, [(1, 0)]))

    def test_wrong_ends(self):
        question = Question.of("a")
        for call, more in ((reason, ()), (denial, ()), (is_reason, (None,)), (is_denial, (None,))):
            for value in (3, -1, True, False, None, "0", [0], Odd()):
                self.refuses(InvalidNode, {"value": value}, call, FORK, question, value, None, *more)
                self.refuses(InvalidNode, {"value": value}, call, FORK, question, 0, value, *more)

    def test_at_the_limits(self):
        path = Store(40, [(x, "a", x + 1) for x in range(39)])
        round_trip = [(p, "a", p) for p in range(9)] + [(p, "A", (p + 1) % 9) for p in range(9)]
        self.assertEqual(len(asked(path, Question(9, round_trip, [8]))), 1600)
        found = reason(path, Question(9, round_trip, [8]), 0, 39)
        self.assertEqual(len(found), 39 + 16 + 1)
        self.is_bool(True, is_reason(path, Question(9, round_trip, [8]), 0, 39, found))
        denied = denial(path, Question(9, round_trip, []), 0, 39)
        self.assertEqual(len(denied), 360)
        self.is_bool(True, is_denial(path, Question(9, round_trip, []), 0, 39, denied))
        full = Store(20, [(x, "a", y) for x in range(20) for y in range(20)])
        every = Question(9, [(p, sign, q) for p in range(9) for sign in SIGNS for q in range(9)], [8])
        self.assertEqual(len(asked(full, every)), 400)
        self.assertEqual(reason(full, every, 19, 19), [(19, 0), (19, 8)])


class Rows(Case):
    def test_rows(self):
        self.assertEqual(row_of(""), Store(1))
        self.assertEqual(row_of("aAa"), Store(4, [(0, "a", 1), (2, "a", 1), (2, "a", 3)]))
        self.assertEqual(row_of(signs="abc"), Store.row("abc"))
        for signs in all_strings(3, "aAbB"):
            self.assertEqual(row_of(signs), Store(len(signs) + 1, sorted(row_ties(signs))))

    def test_limits(self):
        self.assertEqual(row_of("a" * 39).nodes, 40)
        for many in (40, 41, 60):
            self.too_many("nodes", 40, row_of, "aA" * (many // 2) + "a" * (many % 2))
        for value in WRONG_SIGNS:
            self.refuses(InvalidSigns, {"value": value}, row_of, value)


if __name__ == "__main__":
    unittest.main()
