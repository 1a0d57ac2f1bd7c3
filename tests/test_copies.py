"""Point [75] and netkeep/copies.py: kinds that agree and bear repeats, looks, clashes and echoes."""

import itertools
import random
import unittest

from netkeep.copies import (
    agrees, bears_repeats, clash, copy_behind, echo, greatest_together, is_clash, is_echo, looks, repeat_looks,
    shows_agreement, shows_repeats,
)
from netkeep.errors import InvalidNodes
from netkeep.faults import InvalidDeeds
from netkeep.kinds import Kind
from netkeep.store import Store
from marked import (
    both_sequences, lists_of, once_and_twice, slow_agrees, slow_bears_repeats, slow_clash, slow_counts, slow_echo,
    slow_shows, some_kind,
)
from support import Case, Odd, Same, otherwise, subsets, wrong_values

LAST, WINS = Kind.last(), Kind.strike_wins()
ODD = Kind([[1], [0]], [False, True])
TIE = (0, "a", 1)
GREAT = Kind([[(mark + 1) % 12, (mark + 5) % 12, mark, (mark + 6) % 12, (mark + 11) % 12] for mark in range(12)],
             [mark == 7 for mark in range(12)])


def slow_is_clash(kind, value):
    if type(value) is not tuple or len(value) != 4:
        return False
    ahead, one, other, behind = value
    if type(ahead) not in (list, tuple) or type(behind) not in (list, tuple):
        return False
    if any(type(deed) is not int or not 0 <= deed < kind.deed_count for deed in (*ahead, one, other, *behind)):
        return False
    ahead, behind = list(ahead), list(behind)
    return slow_counts(kind, ahead + [one, other] + behind) != slow_counts(kind, ahead + [other, one] + behind)


def slow_is_echo(kind, value):
    if type(value) is not tuple or len(value) != 3:
        return False
    ahead, deed, behind = value
    if type(ahead) not in (list, tuple) or type(behind) not in (list, tuple):
        return False
    if any(type(one) is not int or not 0 <= one < kind.deed_count for one in (*ahead, deed, *behind)):
        return False
    ahead, behind = list(ahead), list(behind)
    return slow_counts(kind, ahead + [deed] + behind) != slow_counts(kind, ahead + [deed, deed] + behind)


class Agreement(Case):
    def test_ordinary(self):
        self.is_bool(False, agrees(LAST))
        self.is_bool(True, bears_repeats(LAST))
        self.is_bool(True, agrees(kind=WINS))
        self.is_bool(True, bears_repeats(kind=WINS))
        self.is_bool(True, agrees(ODD))
        self.is_bool(False, bears_repeats(ODD))
        self.assertIsNone(looks(LAST))
        self.is_bool(True, shows_repeats(LAST, [0, 1]))
        self.is_bool(False, shows_agreement(LAST, [0, 1]))
        self.is_bool(False, shows_repeats(LAST, [0, 0]))
        self.is_bool(True, shows_agreement(kind=WINS, value=(5, 10 ** 29, 0)))
        self.is_bool(True, shows_agreement(ODD, [0, 1]))
        self.is_bool(False, shows_repeats(ODD, [0, 1]))
        self.assertIsNone(repeat_looks(kind=ODD))

    def test_against_lists_of_deeds(self):
        rng = random.Random(184)
        kinds = {}
        for _ in range(200):
            kind = some_kind(rng)
            found = agrees(kind), bears_repeats(kind)
            kinds[found] = kinds.get(found, 0) + 1
            self.is_bool(slow_agrees(kind), found[0])
            self.is_bool(slow_bears_repeats(kind), found[1])
            self.assertEqual(looks(kind) is not None, found[0])
            self.assertEqual(repeat_looks(kind) is not None, found[1])
            if found[0]:
                self.assertTrue(slow_shows(kind, looks(kind), both_sequences))
                self.is_bool(True, shows_agreement(kind, looks(kind)))
                for deeds in lists_of(kind, 4):
                    for other in itertools.permutations(deeds):
                        self.assertEqual(slow_counts(kind, deeds), slow_counts(kind, other))
            if found[1]:
                self.assertTrue(slow_shows(kind, repeat_looks(kind), once_and_twice))
                self.is_bool(True, shows_repeats(kind, repeat_looks(kind)))
        self.assertGreater(min(kinds.values()), 10)
        self.assertEqual(len(kinds), 4)

    def test_marks_that_are_not_come_to_do_not_matter(self):
        kind = Kind([[0, 0], [2, 0], [0, 1]], [False, True, False])
        self.assertEqual((agrees(kind), bears_repeats(kind)), (True, True))
        self.assertEqual(looks(kind)[1:], [None, None])
        self.is_bool(True, shows_agreement(kind, [3, None, None]))
        self.is_bool(False, shows_agreement(kind, [3, 4, 5]))
        self.is_bool(False, shows_agreement(kind, [None, None, None]))
        self.is_bool(False, shows_agreement(kind, [3, 4, None]))

    def test_looks_that_are_otherwise(self):
        rng = random.Random(185)
        good = 0
        for _ in range(25):
            kind = some_kind(rng, 4, 2)
            for value in itertools.product((None, 0, 1, 2), repeat=len(kind)):
                agreeing, repeating = slow_shows(kind, value, both_sequences), slow_shows(kind, value, once_and_twice)
                good += agreeing + repeating
                self.is_bool(agreeing, shows_agreement(kind, list(value)))
                self.is_bool(repeating, shows_repeats(kind, value))
        self.assertGreater(good, 40)
        for kind in (WINS, LAST, ODD):
            for value in otherwise([0, 1, 2][:len(kind)]):
                self.is_bool(slow_shows(kind, value, both_sequences), shows_agreement(kind, value))
                self.is_bool(slow_shows(kind, value, once_and_twice), shows_repeats(kind, value))
        for value in (WINS, "012", {0: 0, 1: 1, 2: 2}, [0, True, 2], [False, 1, 2], [0, 1, 2, 3], [0, 1, Same()]):
            self.is_bool(False, shows_agreement(WINS, value))
            self.is_bool(False, shows_repeats(WINS, value))


class Clashes(Case):
    def test_ordinary(self):
        self.assertEqual(clash(LAST), ([], 0, 1, []))
        self.assertIsNone(clash(kind=WINS))
        self.assertEqual(echo(ODD), ([], 0, []))
        self.assertIsNone(echo(kind=LAST))
        # Deed 0 leads on, 1 and 2 clash behind it alone, and deed 3 shows it.
        kind = Kind([[1, 0, 0, 0], [1, 2, 3, 1], [2, 2, 2, 4], [3, 3, 3, 3], [4] * 4], [False, False, False, False, True])
        self.assertEqual(clash(kind), ([], 0, 1, [3]))
        self.assertEqual(clash(kind.only([1, 2, 3])), None)

    def test_against_trying_lists(self):
        rng = random.Random(186)
        clashes, echoes = {}, {}
        for _ in range(300):
            kind = some_kind(rng, 6, 2)
            found, told = clash(kind), echo(kind)
            self.assertEqual(found, slow_clash(kind, 5 if found is None else len(found[0]) + len(found[3])))
            self.assertEqual(told, slow_echo(kind, 5 if told is None else len(told[0]) + len(told[2])))
            if found is not None:
                self.is_bool(True, is_clash(kind, found))
                clashes[len(found[0]), len(found[3])] = True
            if told is not None:
                self.is_bool(True, is_echo(kind, told))
                echoes[len(told[0]), len(told[2])] = True
        self.assertGreater(len(clashes), 3)
        self.assertGreater(len(echoes), 3)

    def test_long_ways(self):
        chain = Kind([[min(mark + 1, 11), mark] for mark in range(11)] + [[11, 0]], [mark == 10 for mark in range(12)])
        self.assertEqual(clash(chain), ([0] * 10, 0, 1, [0] * 10))
        self.is_bool(True, is_clash(chain, clash(chain)))
        late = Kind([[mark + 1, 0] for mark in range(11)] + [[11, 11]], [mark == 11 for mark in range(12)])
        self.assertEqual(echo(late), ([], 0, [0] * 9))
        self.assertEqual(clash(late)[0:3], ([], 0, 1))

    def test_values_that_are_otherwise(self):
        for kind, told in ((LAST, ([1], 0, 1, [])), (LAST, ((), 1, 0, ())), (GREAT, clash(GREAT) or ([], 0, 1, []))):
            for value in otherwise(told):
                self.is_bool(slow_is_clash(kind, value), is_clash(kind, value))
        for kind, told in ((ODD, ([0], 0, [])), (GREAT, echo(GREAT)), (ODD, ((), 0, (0, 0)))):
            for value in otherwise(told):
                self.is_bool(slow_is_echo(kind, value), is_echo(kind, value))
        for value in (([], 0, 0, []), ([], 0, 1, [0]), ([], False, 1, []), ([], 0, True, []), ([True], 0, 1, []), "0101",
                      [[], 0, 1, []], ([], 0, 1), ([], 0, 2, []), (None, 0, 1, []), ([], 0, 1, None)):
            self.is_bool(False, is_clash(LAST, value))
        for value in (([], 1, []), ([], False, []), ([True], 0, []), [[], 0, []], ([], 0), (None, 0, []), ([], 0, "")):
            self.is_bool(False, is_echo(ODD, value))

    def test_twelve_marks_and_five_deeds(self):
        self.assertEqual((agrees(GREAT), bears_repeats(GREAT)), (True, False))
        self.is_bool(True, shows_agreement(GREAT, looks(GREAT)))
        self.is_bool(True, is_echo(GREAT, echo(GREAT)))
        self.assertEqual(greatest_together(GREAT), [[0, 1, 2, 3, 4]])


class Together(Case):
    def test_ordinary(self):
        self.assertEqual(greatest_together(LAST), [[0], [1]])
        self.assertEqual(greatest_together(kind=WINS), [[0, 1]])
        self.assertEqual(greatest_together(ODD), [[0]])
        kind = Kind([[1, 2, 0], [1, 1, 1], [2, 2, 2]], [False, True, False])
        self.assertEqual(greatest_together(kind), [[0, 2], [1, 2]])

    def test_against_trying_all(self):
        rng = random.Random(187)
        many = 0
        for _ in range(120):
            kind = some_kind(rng, 5, 4)
            good = [some for some in subsets(range(kind.deed_count)) if some and slow_agrees(kind.only(some))]
            told = sorted(some for some in good if not any(set(some) < set(more) for more in good))
            many += len(told) > 1
            self.assertEqual(greatest_together(kind), told)
        self.assertGreater(many, 20)


class Behind(Case):
    def test_ordinary(self):
        some = [(1, TIE), (0, TIE), (0, (1, "a", 1))]
        self.assertEqual(copy_behind(WINS, 2, some), Store(2, [(1, "a", 1)]))
        self.assertEqual(copy_behind(kind=LAST, nodes=3, some=tuple(some)), Store(3, [TIE, (1, "a", 1)]))
        self.assertEqual(copy_behind(LAST, 2, []), Store(2))
        # A tie that no deed is told of is not in it, also if mark 0 counts.
        always = Kind([[0]], [True])
        self.assertEqual(copy_behind(always, 2, [(0, TIE)]), Store(2, [TIE]))
        self.assertEqual(copy_behind(always, 2, []), Store(2))

    def test_against_deed_by_deed(self):
        rng = random.Random(188)
        ties = [(x, letter, y) for x in range(2) for letter in "ab" for y in range(2)]
        for _ in range(80):
            kind = some_kind(rng)
            some = [(rng.randrange(kind.deed_count), rng.choice(ties)) for _ in range(rng.randint(0, 12))]
            told = [tie for tie in ties if tie in [one for _, one in some]
                    and slow_counts(kind, [deed for deed, one in some if one == tie])]
            self.assertEqual(copy_behind(kind, 2, some), Store(2, told))

    def test_errors_in_sequence(self):
        for value in (0, 41, -1, True, None, "2", [2], Odd()):
            self.refuses(InvalidNodes, {"value": value}, copy_behind, LAST, value, None)
        for value in (None, True, 0, "ab", {}, {0: TIE}, LAST, Odd()):
            self.refuses(InvalidDeeds, {"position": None}, copy_behind, LAST, 2, value)
        for value in wrong_values() + [(0, TIE, 0), (0,), [0, TIE], (2, TIE), (-1, TIE), (True, TIE), (0, (0, "a", 2)),
                                       (0, (0, "a", True)), (0, [0, "a", 1]), (TIE, 0), (0, (0, "g", 1)), TIE]:
            self.refuses(InvalidDeeds, {"position": 1}, copy_behind, LAST, 2, [(0, TIE), value, None])

    def test_too_many_ties(self):
        ties = [(x, "f", y) for x in range(21) for y in range(20)]
        some = [(0, tie) for tie in ties[:400]]
        self.assertEqual(len(copy_behind(LAST, 40, some + [(1, tie) for tie in ties[400:]] + some)), 400)
        self.too_many("ties", 400, copy_behind, LAST, 40, some + [(0, ties[400])])
        self.assertEqual(len(copy_behind(LAST, 40, some + [(0, ties[400]), (1, ties[0])])), 400)


if __name__ == "__main__":
    unittest.main()
