"""Points [24] to [28], and netkeep/within.py: what lies within what in all stores, and the papers of it."""

import random
import unittest

from netkeep.errors import InvalidSigns
from netkeep.questions import Question, asked
from netkeep.within import (
    are_alike, cover, how_many_triples, is_cover, is_parting, lies_within, needless, pared, parting, reach_behind,
    rounds_behind,
)
from support import (
    SIGNS, Case, Odd, all_strings, come_to, row_ties, slow_parts, slow_reads, some_question, some_store, wrong_values,
)

ONCE, THRICE = Question.of("a"), Question.of("aAa")
BUSY_STEPS = """0A1 0B3 0C1 0D2 0E0 0F1 0a1 0c2 0d2 0e0 0e1 0f1 1A0 1D0 1E0 1F0 1b2 1c1 1d3 1e2 2B0 2B1 2C0 2D2 2E1
2F3 2a2 2b1 2c0 2c3 2d0 2d2 2e3 2f3 3B0 3B2 3C3 3D1 3D3 3E2 3E3 3F2 3a0 3b0 3b2 3c1 3d3 3f2"""
# A question with very many unlike reaches and rounds: 1,301 pairs of both behind all strings.
BUSY = Question(4, [(int(step[0]), step[1], int(step[2])) for step in BUSY_STEPS.split()], [3])


def looping(ahead):
    """A question that reads all strings that end with one of some signs, with a standing behind these."""
    return Question(2, [(0, sign, 0) for sign in SIGNS] + [(0, sign, 1) for sign in ahead], [1])


def slow_triples(one, other, longest):
    """The triples of trimmed questions behind all strings of at most so many signs."""
    found = set()
    for signs in all_strings(longest, sorted(set(one.signs()))):
        standings = {0}
        for sign in signs:
            standings = {q for p, way, q in one.steps() if p in standings and way == sign}
        if standings:
            reach, rounds = slow_reach(other, signs), slow_rounds(other, signs)
            found |= {(standing, tuple(reach), tuple(rounds)) for standing in standings}
    return found


def slow_reach(question, signs):
    places = come_to(len(signs) + 1, row_ties(signs), question.steps(), (0, 0))
    return sorted(standing for node, standing in places if node == len(signs))


def slow_rounds(question, signs):
    found = []
    for p in range(question.standings):
        places = come_to(len(signs) + 1, row_ties(signs), question.steps(), (len(signs), p))
        found += [(p, q) for node, q in places if node == len(signs)]
    return sorted(found)


class Behind(Case):
    def test_ordinary(self):
        self.assertEqual(reach_behind(THRICE, ""), [0])
        self.assertEqual(rounds_behind(THRICE, ""), [(0, 0), (1, 1), (2, 2), (3, 3)])
        self.assertEqual(reach_behind(THRICE, "a"), [1, 3])
        self.assertEqual(rounds_behind(question=THRICE, signs="a"), [(0, 0), (1, 1), (1, 3), (2, 2), (3, 3)])
        self.assertEqual(reach_behind(question=THRICE, signs="b"), [])

    def test_against_rows(self):
        rng = random.Random(41)
        for _ in range(25):
            question = some_question(rng, rng.randint(1, 5), rng.randint(0, 12), "aAbB")
            for signs in all_strings(3, "aAb") + ["aAbBaA", "aaAAbB"]:
                self.assertEqual(reach_behind(question, signs), slow_reach(question, signs))
                self.assertEqual(rounds_behind(question, signs), slow_rounds(question, signs))

    def test_nine_standings_and_sixty_signs(self):
        steps = [(p, "a", (p + 1) % 9) for p in range(9)] + [(p, "A", p) for p in range(9)]
        question = Question(9, steps, [8])
        self.assertEqual(reach_behind(question, "a" * 60), slow_reach(question, "a" * 60))
        self.assertEqual(rounds_behind(question, "aA" * 30), slow_rounds(question, "aA" * 30))
        self.assertEqual(reach_behind(Question.of("abcdefAB"), "abcdefAB"), [8])

    def test_wrong_signs(self):
        for call in (reach_behind, rounds_behind):
            for value in (None, True, 0, [], ["a"], "g", "a ", b"a", {}, Odd(), "a" * 61):
                self.refuses(InvalidSigns, {"value": value}, call, ONCE, value)


class Within(Case):
    def test_ordinary(self):
        self.is_bool(True, lies_within(ONCE, THRICE))
        self.is_bool(False, lies_within(one=THRICE, other=ONCE))
        self.assertEqual(parting(THRICE, ONCE), "aAa")
        self.assertEqual(parting(one=ONCE, other=THRICE), None)
        self.assertEqual(cover(ONCE, ONCE), [(0, (0,), ((0, 0), (1, 1))), (1, (1,), ((0, 0), (1, 1)))])
        self.assertEqual(cover(one=THRICE, other=ONCE), None)
        self.assertEqual(how_many_triples(one=ONCE, other=ONCE), 2)
        self.is_bool(True, are_alike(THRICE, Question(4, THRICE.steps(), [1, 3])))
        self.is_bool(False, are_alike(one=ONCE, other=THRICE))

    def test_questions_that_read_nothing(self):
        nothing, loops = Question(3, [(0, "a", 1)], []), Question(1, [(0, "a", 0), (0, "A", 0)], [])
        for one in (nothing, loops):
            self.is_bool(True, lies_within(one, ONCE))
            self.assertEqual(parting(one, ONCE), None)
            self.is_bool(False, lies_within(ONCE, one))
            self.assertEqual(parting(ONCE, one), "a")
        self.assertEqual(cover(nothing, ONCE), [(0, (0,), ((0, 0), (1, 1)))])
        self.assertEqual(cover(nothing, loops), [(0, (0,), ((0, 0),))])
        self.assertEqual(how_many_triples(loops, loops), 1)
        self.assertEqual(how_many_triples(loops, THRICE), len(slow_triples(loops, THRICE, 5)))
        self.assertGreater(how_many_triples(loops, THRICE), 1)

    def test_empty_string_parts(self):
        self.assertEqual(parting(Question.of(""), ONCE), "")
        self.is_bool(True, is_parting(Question.of(""), ONCE, ""))
        self.is_bool(False, is_parting(ONCE, Question.of(""), ""))

    def test_parting_is_the_least(self):
        both = Question(2, [(0, "a", 1), (0, "B", 1), (0, "A", 1)], [1])
        self.assertEqual(parting(both, Question.of("A")), "B")
        self.assertEqual(parting(both, ONCE), "A")
        two = Question(3, [(0, "c", 1), (1, "a", 2), (0, "b", 2), (2, "A", 2)], [2])
        self.assertEqual(parting(two, Question.of("b")), "bA")

    def test_against_strings(self):
        rng = random.Random(42)
        many = [0, 0]
        for turn in range(90):
            signs = ("Aa", "Aab", "ABab")[turn % 3]
            longest = (7, 5, 4)[turn % 3]
            one = some_question(rng, rng.randint(1, 4), rng.randint(0, 7), signs)
            other = some_question(rng, rng.randint(1, 4), rng.randint(0, 9), signs)
            found, table = parting(one, other), cover(one, other)
            many[found is None] += 1
            self.is_bool(found is None, lies_within(one, other))
            self.assertEqual(table is None, found is not None)
            self.is_bool(found is not None, is_parting(one, other, found))
            self.is_bool(found is None, is_cover(one, other, table))
            if found is None or len(found) > longest:
                parts = [string for string in all_strings(longest, signs) if slow_parts(one, other, string)]
                self.assertEqual(parts, [])
            else:
                shorter = all_strings(len(found), signs)
                self.assertEqual(next(string for string in shorter if slow_parts(one, other, string)), found)
            if found is not None:
                self.is_bool(True, slow_parts(one, other, found))
            self.is_bool(lies_within(one, other) and lies_within(other, one), are_alike(one, other))
        self.assertGreater(min(many), 15)

    def test_within_in_stores(self):
        rng = random.Random(43)
        for _ in range(40):
            one = some_question(rng, rng.randint(1, 3), rng.randint(0, 6), "aAb")
            other = some_question(rng, rng.randint(1, 4), rng.randint(2, 9), "aAb")
            if lies_within(one, other):
                for _ in range(10):
                    store = some_store(rng, rng.randint(1, 5), rng.randint(0, 10), "ab")
                    self.assertTrue(set(asked(store, one)) <= set(asked(store, other)))

    def test_triples_against_rows(self):
        rng = random.Random(44)
        for _ in range(40):
            one = some_question(rng, rng.randint(1, 3), rng.randint(0, 4), "aA").trimmed()
            other = some_question(rng, rng.randint(1, 3), rng.randint(0, 6), "aA").trimmed()
            slow = slow_triples(one, other, 9)
            many = how_many_triples(one, other)
            self.assertGreaterEqual(many, len(slow))
            if many <= 9:
                self.assertEqual(many, len(slow))
            if lies_within(one, other):
                table = cover(one, other)
                self.assertEqual(table, sorted(set(table)))
                self.assertTrue(slow <= set(table))
                self.assertEqual(len(table), many)

    def test_untrimmed_questions_are_trimmed(self):
        steps = [(0, "b", 1), (0, "a", 2), (2, "A", 3), (3, "a", 4), (5, "a", 5)]
        long = Question(6, steps, [4])
        self.assertEqual(cover(long, THRICE), cover(THRICE, THRICE))
        self.is_bool(True, are_alike(long, THRICE))
        self.assertEqual(parting(long, ONCE), "aAa")
        self.assertEqual(how_many_triples(ONCE, long), how_many_triples(ONCE, THRICE))


class Judged(Case):
    def test_is_cover_of_any_value(self):
        good = cover(ONCE, THRICE)
        self.assertEqual(good, [(0, (0,), ((0, 0), (1, 1), (2, 2), (3, 3))),
                                (1, (1, 3), ((0, 0), (1, 1), (1, 3), (2, 2), (3, 3)))])
        self.is_bool(True, is_cover(ONCE, THRICE, good))
        self.is_bool(True, is_cover(one=ONCE, other=THRICE, value=tuple(good[::-1])))
        first, last = good
        rounds = first[2]
        for value in wrong_values() + [[first], [last], [first, last, last], [last, first, first], {first: 1, last: 1},
                                       [first, list(last)], [first, last + (0,)], [first, last[:2]],
                                       [first, last, (1, (1,), rounds, 0)], [first, last, None], [first, last, Odd()],
                                       [(False, (0,), rounds), last], [(0, (False,), rounds), last],
                                       [(0, [0], rounds), last], [(0, (0,), list(rounds)), last],
                                       [(0, (0,), ((0, False),) + rounds[1:]), last],
                                       [first, last, (2, (), ())], [first, last, (-1, (), ())],
                                       [first, last, (0, (4,), ())], [first, last, (0, (1, 0), ())],
                                       [first, last, (0, (1, 1), ())], [first, last, (0, (1,), ((0, 4),))],
                                       [first, last, (0, (1,), ((1, 0), (0, 0)))],
                                       [first, last, (0, (1,), ((0, 0), (0, 0)))],
                                       [first, last, (0, (1,), ([0, 0],))], [first, last, (0, (1,), ((0, 0, 0),))],
                                       [first, last, (0, None, ())], [first, last, (0, (0,), None)]]:
            self.is_bool(False, is_cover(ONCE, THRICE, value))

    def test_reach_and_rounds_rise(self):
        good = cover(ONCE, THRICE)
        self.is_bool(True, is_cover(ONCE, THRICE, good + [(1, (2, 3), ((0, 0), (0, 1), (2, 1)))]))
        for reach in ((3, 2), (3, 3), (2, 2, 3), (2, 3, 3), (0, 3, 2), (0, 1, 3, 2)):
            self.is_bool(False, is_cover(ONCE, THRICE, good + [(1, reach, ())]))
        for rounds in (((0, 1), (0, 0)), ((1, 0), (0, 1)), ((0, 0), (0, 0)), ((0, 0), (2, 1), (2, 0)),
                       ((0, 0), (1, 1), (3, 3), (2, 2))):
            self.is_bool(False, is_cover(ONCE, THRICE, good + [(1, (3,), rounds)]))

    def test_covers_with_further_triples(self):
        good = cover(ONCE, THRICE)
        # This one is no end, and its step leads to reach (1, 3) with the rounds of the second triple.
        self.is_bool(True, is_cover(ONCE, THRICE, good + [(0, (0,), ((0, 0), (1, 1), (2, 2)))]))
        self.is_bool(True, is_cover(ONCE, THRICE, good + [(1, (3,), ())]))
        self.is_bool(False, is_cover(ONCE, THRICE, good + [(1, (0, 1, 2), ())]))
        # Without any round ahead no excursion is made: the step leads to another triple, which is lacking.
        self.is_bool(False, is_cover(ONCE, THRICE, good + [(0, (0,), ())]))
        plain = (1, (1,), ((0, 0), (1, 1), (2, 2), (3, 3)))
        self.is_bool(False, is_cover(ONCE, THRICE, good + [(0, (0,), ()), plain]))
        both = Question(4, THRICE.steps(), [1, 3])
        self.is_bool(True, is_cover(ONCE, both, cover(ONCE, both) + [(0, (0,), ()), plain]))

    def test_covers_with_a_triple_less(self):
        rng = random.Random(45)
        for _ in range(30):
            one = some_question(rng, rng.randint(1, 3), rng.randint(1, 6), "aA")
            table = cover(one, THRICE)
            for place in range(len(table or ())):
                self.is_bool(False, is_cover(one, THRICE, table[:place] + table[place + 1:]))

    def test_is_parting_of_any_value(self):
        self.is_bool(True, is_parting(one=THRICE, other=ONCE, value="aAa"))
        for value in wrong_values() + ["a", "aA", "aAaA", "AAA", ["a", "A", "a"], ("a", "A", "a"), b"aAa", "aAa ", "gGg"]:
            self.is_bool(False, is_parting(THRICE, ONCE, value))
        self.is_bool(False, is_parting(ONCE, THRICE, "a"))

    def test_partings_of_two_thousand_signs(self):
        loop = Question(1, [(0, "a", 0)], [0])
        self.is_bool(True, is_parting(loop, ONCE, "a" * 61))
        self.is_bool(True, is_parting(loop, ONCE, "a" * 2000))
        self.is_bool(False, is_parting(loop, ONCE, "a" * 2001))
        self.is_bool(False, is_parting(loop, loop, "a" * 2000))

    def test_long_least_parting(self):
        count = Question(4, [(0, "a", 1), (1, "a", 2), (2, "a", 0)], [0])
        some = Question(4, [(0, "a", 1), (1, "a", 2), (2, "a", 3), (3, "a", 0)], [0, 1, 2])
        self.assertEqual(parting(count, some), "aaa")
        self.assertEqual(parting(count, Question(4, some.steps(), [0, 2, 3])), "aaaaaaaaa")


class Pared(Case):
    def test_ordinary(self):
        twice = Question(3, [(0, "a", 1), (0, "a", 2)], [1, 2])
        self.assertEqual(needless(twice), [(0, "a", 1), (0, "a", 2)])
        self.assertEqual(pared(twice), ONCE)
        self.assertEqual(needless(question=THRICE), [])
        self.assertEqual(pared(question=THRICE), THRICE)

    def test_the_last_one_is_tried_first(self):
        question = Question(3, [(0, "a", 1), (0, "a", 2), (1, "b", 1)], [1, 2])
        self.assertEqual(needless(question), [(0, "a", 2)])
        self.assertEqual(pared(question), Question(2, [(0, "a", 1), (1, "b", 1)], [1]))
        chain = Question(3, [(0, "a", 1), (0, "b", 2), (1, "c", 2), (2, "a", 1), (2, "a", 2)], [1])
        self.assertEqual(needless(chain), [])

    def test_steps_to_nowhere_are_needless(self):
        question = Question(9, [(0, "a", 1), (0, "b", 2), (2, "A", 3), (4, "f", 1), (8, "c", 8)], [1])
        self.assertEqual(needless(question), [(0, "b", 2), (2, "A", 3), (4, "f", 1), (8, "c", 8)])
        self.assertEqual(pared(question), ONCE)
        self.assertEqual(needless(Question(2, [(0, "a", 0), (0, "a", 1)], [])), [(0, "a", 0), (0, "a", 1)])
        self.assertEqual(pared(Question(2, [(0, "a", 0), (0, "a", 1)], [])), Question(1, [], []))

    def test_without_steps(self):
        self.assertEqual((needless(Question(5, [], [0])), pared(Question(5, [], [0]))), ([], Question(1, [], [0])))

    def test_step_by_step(self):
        rng = random.Random(46)
        for _ in range(30):
            question = some_question(rng, rng.randint(1, 4), rng.randint(0, 8), "aAb")
            steps, ends = question.steps(), question.ends()
            less = [step for step in steps if are_alike(
                Question(question.standings, [one for one in steps if one != step], ends), question)]
            self.assertEqual(needless(question), less)
            left = list(steps)
            for step in steps[::-1]:
                tried = [one for one in left if one != step]
                if are_alike(Question(question.standings, tried, ends), question):
                    left = tried
            self.assertEqual(pared(question), Question(question.standings, left, ends).trimmed())
            self.is_bool(True, are_alike(pared(question), question))
            self.assertEqual([pared(question).reads(signs) for signs in ("",)], [question.reads("")])


class Limits(Case):
    def test_more_than_four_standings(self):
        five = Question.of("aaaa")
        for one, other in ((five, ONCE), (ONCE, five), (five, five)):
            for call in (lies_within, cover, parting, how_many_triples, are_alike):
                self.too_many("standings", 4, call, one, other)
            for call in (is_cover, is_parting):
                for value in (None, [], "aaaa", Odd()):
                    self.too_many("standings", 4, call, one, other, value)
        for call in (needless, pared):
            self.too_many("standings", 4, call, five)
        self.assertEqual(reach_behind(five, "aaaa"), [4])
        self.assertEqual(len(rounds_behind(five, "aaaa")), 5)

    def test_five_standings_that_are_four_when_trimmed(self):
        five = Question(5, [(0, "a", 2), (2, "A", 3), (3, "a", 4), (1, "a", 4)], [4])
        self.is_bool(True, lies_within(five, THRICE))
        self.is_bool(True, are_alike(THRICE, five))
        self.assertEqual(needless(five), [(1, "a", 4)])
        self.assertEqual(pared(five), THRICE)
        self.is_bool(True, is_cover(five, five, cover(THRICE, THRICE)))
        self.is_bool(True, is_parting(five, ONCE, "aAa"))

    def test_two_thousand_triples_and_one_more(self):
        most, more = looping("Ccef"), looping("BFb")
        self.assertEqual(how_many_triples(most, BUSY), 2000)
        table_or_none = cover(most, BUSY)
        self.assertEqual(table_or_none is None, not lies_within(most, BUSY))
        for call in (lies_within, cover, parting, how_many_triples):
            self.too_many("triples", 2000, call, more, BUSY)

    def test_too_many_triples_whatever_the_answer_is(self):
        signs = [(0, sign, 1) for sign in "BFb"]
        for ends in ([0, 1], [1]):
            one = Question(2, [(0, sign, 0) for sign in SIGNS] + signs, ends)
            self.too_many("triples", 2000, lies_within, one, BUSY)
            self.too_many("triples", 2000, lies_within, one, Question(4, BUSY.steps(), [0, 1, 2, 3]))

    def test_too_many_triples_on_the_other_side_alone(self):
        more = looping("BFb")
        self.assertLess(how_many_triples(BUSY, more), 2000)
        for one, other in ((more, BUSY), (BUSY, more)):
            self.too_many("triples", 2000, are_alike, one, other)
        self.too_many("triples", 2000, needless, BUSY)
        self.too_many("triples", 2000, pared, BUSY)

    def test_judges_raise_no_too_many_triples(self):
        more = looping("BFb")
        self.is_bool(False, is_cover(more, BUSY, []))
        first = (0, (0,), tuple((p, p) for p in range(4)))
        self.is_bool(False, is_cover(more, BUSY, [first]))
        self.is_bool(slow_reads(more, "B") and slow_parts(more, BUSY, "B"), is_parting(more, BUSY, "B"))

    def test_a_cover_of_very_many_triples(self):
        silent = Question(1, [(0, sign, 0) for sign in SIGNS], [])
        table = cover(silent, BUSY)
        self.assertEqual((len(table), table), (1301, sorted(set(table))))
        self.is_bool(True, is_cover(silent, BUSY, table))
        self.is_bool(False, is_cover(silent, BUSY, table[:700] + table[701:]))
        self.is_bool(False, is_cover(silent, BUSY, table + table[:1]))
        every = Question(4, BUSY.steps(), [0, 1, 2, 3])
        loop = Question(1, [(0, sign, 0) for sign in SIGNS], [0])
        self.assertEqual(how_many_triples(loop, every), 1301)
        reads_all = Question(2, [(p, sign, q) for p in range(2) for sign in SIGNS for q in range(2)], [0, 1])
        table = cover(looping("Ccef"), reads_all)
        self.is_bool(True, is_cover(looping("Ccef"), reads_all, table))
        parted = parting(loop, every)
        self.is_bool(True, is_parting(loop, every, parted))
        self.is_bool(True, slow_parts(loop, every, parted))

    def test_nine_standings_with_all_steps(self):
        steps = [(p, sign, q) for p in range(9) for sign in SIGNS for q in range(9)]
        self.too_many("standings", 4, needless, Question(9, steps, [8]))
        lone = Question(9, [step for step in steps if step[0] > 3 or step[2] < 4], [0, 1, 2, 3])
        self.assertEqual(len(needless(lone)), len(lone.steps()))
        self.assertEqual(pared(lone).standings, 1)


if __name__ == "__main__":
    unittest.main()
