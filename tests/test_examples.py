"""The examples of the interface, line by line, as they stand in the document."""

import doctest
import unittest

STAGE_1 = r"""
>>> from netkeep.answers import back, counts, pairs, product, walk
>>> from netkeep.store import Store
>>> fork = Store(3, [(0, "a", 1), (0, "a", 2), (1, "b", 2), (2, "b", 2)])
>>> [pairs(fork, "ab"), counts(fork, "ab"), walk(fork, "ab", 0, 2), fork.put((0, "a", 1))[1], (fork - (0, "a", 2)).ties()]
[[(0, 2)], [[0, 0, 2], [0, 0, 0], [0, 0, 0]], [0, 1, 2], False, [(0, 'a', 1), (1, 'b', 2), (2, 'b', 2)]]
>>> [product(3, [(0, 1), (0, 2)], [(1, 2), (2, 2)]), back(3, [(0, 2)], [(1, 2), (2, 2)]), Store.row("ab")]
[[(0, 2)], [(0, 0), (0, 1), (0, 2), (1, 0), (2, 0)], Store(3, [(0, 'a', 1), (1, 'b', 2)])]
"""
STAGE_2 = r"""
>>> from netkeep.questions import Question, asked, reason, row_of
>>> from netkeep.within import are_alike, cover, lies_within, needless, pared, parting, reach_behind, rounds_behind
>>> from netkeep.store import Store
>>> fork = Store(3, [(0, "a", 1), (0, "a", 2), (1, "b", 2), (2, "b", 2)])
>>> once, thrice = Question.of("a"), Question.of("aAa")
>>> [asked(fork, thrice), reason(fork, Question(2, [(0, "b", 1), (1, "B", 1)], [1]), 1, 2), row_of("aAa").ties()]
[[(0, 1), (0, 2)], [(1, 0), (2, 1)], [(0, 'a', 1), (2, 'a', 1), (2, 'a', 3)]]
>>> [lies_within(once, thrice), parting(thrice, once), reach_behind(thrice, "a"), rounds_behind(thrice, "a")]
[True, 'aAa', [1, 3], [(0, 0), (1, 1), (1, 3), (2, 2), (3, 3)]]
>>> twice = Question(3, [(0, "a", 1), (0, "a", 2)], [1, 2])
>>> [needless(twice), pared(twice) == once, are_alike(thrice, Question(4, thrice.steps(), [1, 3])), cover(once, once)]
[[(0, 'a', 1), (0, 'a', 2)], True, True, [(0, (0,), ((0, 0), (1, 1))), (1, (1,), ((0, 0), (1, 1)))]]
"""
STAGE_3 = r"""
>>> from netkeep.filled import filled, is_trace, put_in, round_of, strikes, wanted
>>> from netkeep.rules import fewest_rules, leads, needless, shortest, words_from
>>> from netkeep.store import Store
>>> turns = [("ab", "c"), ("cc", "a")]
>>> net = Store(3, [(0, "a", 1), (1, "b", 2), (2, "c", 0)])
>>> [wanted(net, turns), round_of(net, turns, (0, "a", 0)), strikes(net, turns, (0, "c", 2)), put_in(net, turns, (2, "b", 1))]
[[(0, 'c', 2)], 2, [(0, 'a', 1)], [(2, 'b', 1), (2, 'c', 1)]]
>>> lines = [((0, "a", 1), []), ((1, "b", 2), []), ((0, "c", 2), [0, 1]), ((2, "c", 0), []), ((0, "a", 0), [2, 3])]
>>> [is_trace(net, turns, (0, "a", 0), lines), words_from(turns, "abab"), leads(turns, "abab", "ba")]
[True, ['a', 'cc', 'abc', 'cab', 'abab'], False]
>>> some = [("ab", "c"), ("cb", "d"), ("abb", "d")]
>>> [needless(some), fewest_rules(some), filled(net, turns).ties()[:3], shortest(some, "fabb")]
[[2], [('ab', 'c'), ('cb', 'd')], [(0, 'a', 0), (0, 'a', 1), (0, 'c', 2)], 'fd']
"""
# Of this example only what speaks of lots and kept answers.
STAGE_4 = r"""
>>> from netkeep.lots import Lot, kept_of
>>> from netkeep.store import Store
>>> lot = Lot(["bc", "b", "ab"])
>>> lot
Lot(['b', 'ab', 'bc'])
>>> lot - "b"
Lot(['ab', 'bc'])
>>> path = Store(4, [(0, "a", 1), (1, "b", 2), (2, "c", 3)])
>>> kept_of(path, lot, "whether")
{'b': [(1, 2)], 'ab': [(0, 2)], 'bc': [(1, 3)]}
>>> kept_of(path, lot, "many")["b"]
[[0, 0, 0, 0], [0, 0, 1, 0], [0, 0, 0, 0], [0, 0, 0, 0]]
"""


class Examples(unittest.TestCase):
    def run_example(self, name, text):
        example = doctest.DocTestParser().get_doctest(text, {}, name, name, 0)
        told = []
        results = doctest.DocTestRunner(verbose=False).run(example, out=told.append)
        self.assertEqual((results.failed, "".join(told)), (0, ""))
        self.assertGreater(results.attempted, 4)

    def test_stage_1(self):
        self.run_example("stage 1", STAGE_1)

    def test_stage_2(self):
        self.run_example("stage 2", STAGE_2)

    def test_stage_3(self):
        self.run_example("stage 3", STAGE_3)

    def test_stage_4_as_far_as_lots(self):
        self.run_example("stage 4", STAGE_4)


if __name__ == "__main__":
    unittest.main()
