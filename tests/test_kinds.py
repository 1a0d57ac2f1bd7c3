"""Point [75] and netkeep/kinds.py: marks of ties, and what deeds make of them."""

import itertools
import random
import unittest

from netkeep.faults import InvalidDeeds, InvalidKind, InvalidMarks, InvalidTable
from netkeep.kinds import Kind
from marked import lists_of, slow_alike, slow_counts, slow_mark, some_kind
from support import Case, Odd, Same, wrong_values

LAST, WINS = Kind.last(), Kind.strike_wins()
COUNTER = Kind([[1, 0], [2, 0], [2, 0]], [False, False, True])
ROUND = Kind([[(mark + 1) % 12, (mark + 5) % 12, mark, 0, 11] for mark in range(12)], [mark % 2 == 1 for mark in range(12)])
WRONG_LISTS = [None, True, 0, "01", "", {}, {0: [0]}, LAST, Odd()]


class Made(Case):
    def test_parts(self):
        kind = Kind([[1, 2], [1, 2], [2, 2]], [False, True, False])
        self.assertEqual(kind.table(), [[1, 2], [1, 2], [2, 2]])
        self.assertEqual(kind.counting(), [False, True, False])
        self.assertEqual((kind.deed_count, len(kind)), (2, 3))
        self.assertEqual((ROUND.deed_count, len(ROUND)), (5, 12))
        self.assertEqual(repr(LAST), "Kind([[1, 0], [1, 0]], [False, True])")
        self.assertEqual(repr(Kind(((0,),), (True,))), "Kind([[0]], [True])")
        self.assertEqual(Kind(table=((0,),), counting=(True,)).table(), [[0]])

    def test_kinds_of_the_interface(self):
        self.assertEqual(LAST, Kind([[1, 0], [1, 0]], [False, True]))
        self.assertEqual(WINS, Kind([[1, 2], [1, 2], [2, 2]], [False, True, False]))
        for deeds in lists_of(LAST, 5):
            self.assertEqual(LAST.does_count(deeds), deeds[-1:] == [0])
            self.assertEqual(WINS.does_count(deeds), 0 in deeds and 1 not in deeds)

    def test_copies_and_new_lists(self):
        table, counting = [[0, 0]], [True]
        kind = Kind(table, counting)
        table[0][0] = 7
        table.append([1])
        counting[0] = False
        kind.table()[0].append(3)
        kind.table().append([1])
        kind.counting().append(False)
        self.assertEqual((kind.table(), kind.counting()), ([[0, 0]], [True]))

    def test_equal(self):
        self.assertTrue(LAST == Kind(((1, 0), (1, 0)), (False, True)))
        self.assertFalse(LAST != Kind([[1, 0], [1, 0]], [False, True]))
        for other in (Kind([[1, 0], [1, 1]], [False, True]), Kind([[1, 0], [1, 0]], [True, True]), WINS, None,
                      repr(LAST), LAST.table(), Odd(), 0):
            self.assertFalse(LAST == other)
            self.assertTrue(LAST != other)

    def test_tables_that_are_none(self):
        for value in WRONG_LISTS + [[], ()]:
            self.refuses(InvalidTable, {"position": None}, Kind, value, None)
        for value in WRONG_LISTS + [[], (), [0, 0], [0], [0, 1, 0], [0, 2], [0, -1], [0, True], [0, None], [0, "0"],
                                    [0, [0]], [False, 0], Same()]:
            if value == [0, 0] and isinstance(value, list):
                continue
            self.refuses(InvalidTable, {"position": 1}, Kind, [[0, 1], value], None)
            self.refuses(InvalidTable, {"position": 1}, Kind, ((0, 1), value), [])
        for value in WRONG_LISTS + [[], [True], [1], [-1], [None]]:
            self.refuses(InvalidTable, {"position": 0}, Kind, [value], [True])
        # Marks and deeds beyond the limits are looked at first.
        self.refuses(InvalidTable, {"position": 12}, Kind, [[12]] * 12 + [[13]], [True] * 13)
        self.refuses(InvalidTable, {"position": 1}, Kind, [[0] * 6, [0] * 5], [])

    def test_marks_that_are_none(self):
        for value in WRONG_LISTS + [[], [True], [True, False, True], (False,)]:
            self.refuses(InvalidMarks, {"position": None}, Kind, [[0], [1]], value)
        for value in [None, 0, 1, "", "True", [], [True], Odd(), Same(), -1]:
            self.refuses(InvalidMarks, {"position": 0}, Kind, [[0], [1]], [value, None])
            self.refuses(InvalidMarks, {"position": 12}, Kind, [[0] * 6] * 13, (True,) * 12 + (value,))

    def test_too_many(self):
        self.too_many("marks", 12, Kind, [[0] * 6] * 13, [True] * 13)
        self.too_many("deeds", 5, Kind, [[0] * 6] * 12, [True] * 12)
        self.assertEqual((len(ROUND), ROUND.deed_count), (12, 5))


class Deeds(Case):
    def test_against_deed_by_deed(self):
        rng = random.Random(181)
        for _ in range(60):
            kind = some_kind(rng)
            for deeds in lists_of(kind, 3):
                self.assertEqual(kind.mark(tuple(deeds)), slow_mark(kind, deeds))
                self.is_bool(slow_counts(kind, deeds), kind.does_count(deeds))
        self.assertEqual(COUNTER.mark([0, 0, 0, 0, 1, 0]), 1)
        self.assertEqual(COUNTER.mark(deeds=[]), 0)
        self.is_bool(False, COUNTER.does_count(deeds=()))

    def test_deeds_that_are_none(self):
        for call in (LAST.mark, LAST.does_count):
            for value in WRONG_LISTS:
                self.refuses(InvalidDeeds, {"position": None}, call, value)
            for value in wrong_values() + [2, -1]:
                self.refuses(InvalidDeeds, {"position": 2}, call, [0, 1, value, None])
        for value in WRONG_LISTS + [[], ()]:
            self.refuses(InvalidDeeds, {"position": None}, LAST.only, value)
        for value in wrong_values() + [2, -1, 1]:
            self.refuses(InvalidDeeds, {"position": 1}, LAST.only, [1, value, None])

    def test_only(self):
        kind = Kind([[1, 2, 0], [2, 2, 1], [0, 0, 0]], [True, False, True])
        self.assertEqual(kind.only([2, 0]), Kind([[0, 1], [1, 2], [0, 0]], [True, False, True]))
        self.assertEqual(kind.only(deeds=(1,)), Kind([[2], [2], [0]], [True, False, True]))
        self.assertEqual(kind.only([0, 1, 2]), kind)
        for some in itertools.permutations(range(3), 2):
            for deeds in lists_of(kind.only(some), 3):
                self.assertEqual(kind.only(some).mark(deeds), kind.mark([some[deed] for deed in deeds]))


class Least(Case):
    def test_ordinary(self):
        self.assertEqual(Kind([[2, 1], [2, 1], [2, 0]], [False, False, True]).least(), LAST)
        self.assertEqual(LAST.least(), LAST)
        self.assertEqual(WINS.least(), WINS)
        self.assertEqual(Kind([[3, 2], [1, 1], [2, 2], [3, 2]], [False, True, False, True]).least(), WINS)
        self.assertEqual(ROUND.least(), Kind([[1, 1, 0, 0, 1], [0, 0, 1, 0, 1]], [False, True]))
        self.assertEqual(Kind([[0], [1]], [True, False]).least(), Kind([[0]], [True]))
        # Marks are numbered as they are met, mark by mark and deed by deed.
        self.assertEqual(Kind([[3, 1], [2, 2], [2, 2], [3, 0]], [False, False, True, True]).least(),
                         Kind([[1, 2], [1, 0], [3, 3], [3, 3]], [False, True, False, True]))

    def test_against_lists_of_deeds(self):
        rng = random.Random(182)
        less = 0
        for _ in range(150):
            kind = some_kind(rng)
            least = kind.least()
            less += len(least) < len(kind)
            for deeds in lists_of(kind, 4):
                self.assertEqual(least.does_count(deeds), slow_counts(kind, deeds))
            self.assertEqual(least.least(), least)
            for one, other in itertools.combinations(range(len(least)), 2):
                self.assertFalse(slow_alike(least, one, other))
            met = [0]
            for mark in met:
                met.extend(goal for at, goal in enumerate(least.table()[mark])
                           if goal not in met + least.table()[mark][:at])
            self.assertEqual(met, list(range(len(least))))
        self.assertGreater(less, 40)


class Together(Case):
    def test_ordinary(self):
        self.assertEqual(LAST & LAST, LAST)
        self.assertEqual(LAST | WINS, Kind([[1, 2], [1, 2], [3, 2], [3, 2]], [False, True, False, True]))
        self.assertEqual(LAST & WINS, Kind([[1, 2], [1, 2], [3, 2], [3, 2]], [False, True, False, False]))
        self.assertEqual((LAST & WINS).least(), WINS)

    def test_against_lists_of_deeds(self):
        rng = random.Random(183)
        for _ in range(150):
            one, other = some_kind(rng, 3, 2), some_kind(rng, 4, 2)
            if one.deed_count != other.deed_count:
                self.refuses(InvalidKind, {"value": other}, lambda: one & other)
                self.refuses(InvalidKind, {"value": other}, lambda: one | other)
                continue
            both, either = one & other, one | other
            self.assertEqual(both.table(), either.table())
            for deeds in lists_of(one, 5):
                self.assertEqual(both.does_count(deeds), slow_counts(one, deeds) and slow_counts(other, deeds))
                self.assertEqual(either.does_count(deeds), slow_counts(one, deeds) or slow_counts(other, deeds))
            couples = {(slow_mark(one, deeds), slow_mark(other, deeds)) for deeds in lists_of(one, 6)}
            self.assertLessEqual(len(couples), len(both))
            met = [0]
            for mark in met:
                met.extend(goal for at, goal in enumerate(both.table()[mark])
                           if goal not in met + both.table()[mark][:at])
            self.assertEqual(met, list(range(len(both))))

    def test_wrong_on_the_right(self):
        for value in wrong_values() + [Kind, Kind([[0]], [True]), "Kind([[1, 0], [1, 0]], [False, True])"]:
            self.refuses(InvalidKind, {"value": value}, lambda: LAST & value)
            self.refuses(InvalidKind, {"value": value}, lambda: LAST | value)

    def test_twelve_marks_together_and_more(self):
        def circle(many):
            return Kind([[(mark + 1) % many] for mark in range(many)], [mark == 0 for mark in range(many)])

        self.assertEqual(len(circle(3) & circle(4)), 12)
        self.assertEqual(len(circle(12) | circle(6)), 12)
        self.too_many("marks", 12, lambda: circle(3) & circle(5))
        self.too_many("marks", 12, lambda: circle(11) | circle(12))


if __name__ == "__main__":
    unittest.main()
