"""The examples of the interface, line by line, as they stand in the document."""

import doctest
import os
import re
import unittest

STAGE_1 = r"""
>>> from netkeep.answers import back, counts, pairs, product, walk
>>> from netkeep.store import Store
>>> fork = Store(3, [(0, "a", 1), (0, "a", 2), (1, "b", 2), (2, "b", 2)])
>>> [pairs(fork, "ab"), counts(fork, "ab"), walk(fork, "ab", 0, 2), fork.put((0, "a", 1))[1], (fork - (0, "a", 2)).ties()]
[[(0, 2)], [[0, 0, 2], [0, 0, 0], [0, 0, 0]], [0, 1, 2], False, [(0, 'a', 1), (1, 'b', 2), (2, 'b', 2)]]
>>> [product(3, [(0, 1), (0, 2)], [(1, 2), (2, 2)]), back(3, [(0, 2)], [(1, 2), (2, 2)]), Store.row("ab")]
[[(0, 2)], [(0, 0), (0, 1), (0, 2), (1, 0), (2, 0)], Store(3, [(0, 'a', 1), (1, 'b', 2)])]
"""
STAGE_2 = r"""
>>> from netkeep.questions import Question, asked, reason, row_of
>>> from netkeep.within import are_alike, cover, lies_within, needless, pared, parting, reach_behind, rounds_behind
>>> from netkeep.store import Store
>>> fork = Store(3, [(0, "a", 1), (0, "a", 2), (1, "b", 2), (2, "b", 2)])
>>> once, thrice = Question.of("a"), Question.of("aAa")
>>> [asked(fork, thrice), reason(fork, Question(2, [(0, "b", 1), (1, "B", 1)], [1]), 1, 2), row_of("aAa").ties()]
[[(0, 1), (0, 2)], [(1, 0), (2, 1)], [(0, 'a', 1), (2, 'a', 1), (2, 'a', 3)]]
>>> [lies_within(once, thrice), parting(thrice, once), reach_behind(thrice, "a"), rounds_behind(thrice, "a")]
[True, 'aAa', [1, 3], [(0, 0), (1, 1), (1, 3), (2, 2), (3, 3)]]
>>> twice = Question(3, [(0, "a", 1), (0, "a", 2)], [1, 2])
>>> [needless(twice), pared(twice) == once, are_alike(thrice, Question(4, thrice.steps(), [1, 3])), cover(once, once)]
[[(0, 'a', 1), (0, 'a', 2)], True, True, [(0, (0,), ((0, 0), (1, 1))), (1, (1,), ((0, 0), (1, 1)))]]
"""
STAGE_3 = r"""
>>> from netkeep.filled import filled, is_trace, put_in, round_of, strikes, wanted
>>> from netkeep.rules import fewest_rules, leads, needless, shortest, words_from
>>> from netkeep.store import Store
>>> turns = [("ab", "c"), ("cc", "a")]
>>> net = Store(3, [(0, "a", 1), (1, "b", 2), (2, "c", 0)])
>>> [wanted(net, turns), round_of(net, turns, (0, "a", 0)), strikes(net, turns, (0, "c", 2)), put_in(net, turns, (2, "b", 1))]
[[(0, 'c', 2)], 2, [(0, 'a', 1)], [(2, 'b', 1), (2, 'c', 1)]]
>>> lines = [((0, "a", 1), []), ((1, "b", 2), []), ((0, "c", 2), [0, 1]), ((2, "c", 0), []), ((0, "a", 0), [2, 3])]
>>> [is_trace(net, turns, (0, "a", 0), lines), words_from(turns, "abab"), leads(turns, "abab", "ba")]
[True, ['a', 'cc', 'abc', 'cab', 'abab'], False]
>>> some = [("ab", "c"), ("cb", "d"), ("abb", "d")]
>>> [needless(some), fewest_rules(some), filled(net, turns).ties()[:3], shortest(some, "fabb")]
[[2], [('ab', 'c'), ('cb', 'd')], [(0, 'a', 0), (0, 'a', 1), (0, 'c', 2)], 'fd']
"""
STAGE_4 = r"""
>>> from netkeep.lots import Lot, kept_of
>>> from netkeep.plans import classes, cut, plan
>>> from netkeep.told import tables, told
>>> from netkeep.twins import first_apart, is_parting, twins
>>> from netkeep.store import Store
>>> lot = Lot(["bc", "b", "ab"])
>>> [lot, plan(lot, "abc"), cut(lot, "abc"), cut(lot - "b", "abc"), classes(lot - "b", "abc")]
[Lot(['b', 'ab', 'bc']), [(0, 'ab', 2), (2, 'b', 1), (1, 'bc', 3)], None, [0, 2], [[0, 2], [1, 3]]]
>>> path = Store(4, [(0, "a", 1), (1, "b", 2), (2, "c", 3)])
>>> [told(lot, "abc", 4, kept_of(path, lot, "whether"), "whether"), tables(lot, "abc", 4, kept_of(path, lot, "whether"))[1][:2]]
[[(0, 3)], [(0, 2)]]
>>> told(lot, "abc", 4, kept_of(path, lot, "many"), "many")[0]
[0, 0, 0, 1]
>>> plain, crossed = twins(lot - "b", "abc")
>>> [first_apart(plain, crossed, "abc", "many"), is_parting(lot - "b", "abc", (plain, crossed), "many"), plain.nodes]
[(0, 6), True, 8]
"""
UPKEEP = r"""
>>> from netkeep.answers import pairs
>>> from netkeep.lots import Lot
>>> from netkeep.upkeep import apart, behind_put, first_gap, kept_letters, stretches
>>> [stretches("aab", "a"), kept_letters(Lot(["ab", "b"])), first_gap(Lot(["aab", "b"]), "a")]
[['', 'a', 'b', 'ab'], 'acdef', ('aab', 0, 1)]
>>> behind_put(Lot(["ab", "b"]), 3, {"ab": [], "b": [(1, 2)]}, "whether", (0, "a", 1))
{'b': [(1, 2)], 'ab': [(0, 2)]}
>>> one, other, tie = apart(Lot(["ab"]), "a")
>>> [tie, one.ties(), pairs(one + tie, "ab"), pairs(other + tie, "ab")]
[(4, 'a', 0), [(0, 'b', 2), (1, 'b', 3)], [(4, 2)], [(4, 3)]]
"""
STAGE_5 = r"""
>>> from netkeep.stocks import Wish, cheapest_stock, is_tree_of_reasons
>>> from netkeep.lots import Lot
>>> from netkeep.secrets import cheapest_withholding, gives_away, is_tree_of_plans, least_withholdings
>>> asked, worth = Lot(["ab", "b", "bc"]), {"ab": 3, "b": 1, "bc": 2}
>>> [gives_away(asked, "abc"), cheapest_withholding(asked, worth, ["abc"]), least_withholdings(asked, worth, ["abc"])]
[True, ['b'], [['b'], ['ab'], ['bc']]]
>>> is_tree_of_plans(asked, worth, ["abc"], 0, (0, [(0, "ab", 2), (2, "b", 1), (1, "bc", 3)], []))
True
>>> prices, wish = {"a": 2, "b": 1, "ab": 2}, Wish(["ab"], "b")
>>> [cheapest_stock(prices, wish).words(), cheapest_stock(prices, wish | Wish(secrets=["b"])).words()]
[['a', 'b'], ['a', 'ab']]
>>> is_tree_of_reasons(prices, wish, 1, ("word", "a", ("dear",), ("word", "ab", ("dear",), ("cut", "ab", [0]))))
True
"""
STAGE_6 = r"""
>>> from netkeep.parts import Scene, outcomes
>>> from netkeep.plays import cheapest_play, cheapest_seals, least_cost
>>> from netkeep.store import Store
>>> from netkeep.vows import is_kept
>>> tie = (1, "b", 2)
>>> scene = Scene(Store(3, [(0, "a", 1), tie]), [tie], {"cut": [("strike", tie), ("put", tie)]}, [("stop", "cut", 1)])
>>> vow, prices = [("ab", (0, 2), True)], {"cut": 2, ("stop", "cut", 1): 3}
>>> [outcomes(scene, "cut", (1,)), is_kept(scene, vow), is_kept(scene, vow, "rest"), is_kept(scene - [("stop", "cut", 1)], vow, "rest")]
[[(0,), (1,)], False, False, True]
>>> [cheapest_play(scene, vow, prices, "rest"), least_cost(scene, vow, prices), cheapest_seals(scene, vow, prices, "rest")]
[[('cut', ['next', 'stop'])], 2, (3, [('stop', 'cut', 1)])]
"""
STAGE_7 = r"""
>>> from netkeep.copies import agrees, bears_repeats, clash, copy_behind
>>> from netkeep.explained import first_missed, is_miss, order_for
>>> from netkeep.joints import least_joints
>>> from netkeep.kinds import Kind
>>> from netkeep.weaving import Sessions, heard, marks
>>> from netkeep.store import Store
>>> two = Sessions(2, [[("ask", "a"), ("ask", "a")], [("put", (0, "a", 1))]])
>>> [order_for(two, [0, 0, 1]), first_missed(two), least_joints(two), marks(two, [0, 1, 0], (0, 1))]
[(0, 1), (0, 1, 0), [[(0, 0)]], {(0, 'a', 1): True}]
>>> [heard(two, Store(2), [0, 1, 0]), is_miss(two, [0, 1, 0], (0, 1), ((0, 1), Store(2)))]
[{(0, 0): [], (0, 1): [(0, 1)]}, True]
>>> [agrees(Kind.last()), clash(Kind.last()), agrees(Kind.strike_wins()), bears_repeats(Kind.last())]
[False, ([], 0, 1, []), True, True]
>>> copy_behind(Kind.strike_wins(), 2, [(1, (0, "a", 1)), (0, (0, "a", 1)), (0, (1, "a", 1))])
Store(2, [(1, 'a', 1)])
"""
STAGE_8 = r"""
>>> from netkeep.code import Code, run
>>> from netkeep.loads import is_sure, places, price
>>> from netkeep.registers import in_use, is_code_of, numbers, packed
>>> from netkeep.sayings import Saying, said
>>> from netkeep.store import Store
>>> fork = Store(3, [(0, "a", 1), (0, "a", 2), (1, "b", 2), (2, "b", 2)])
>>> say = (Saying("a") | Saying("b")) * Saying("B").again()
>>> [say.text(), numbers(say), said(fork, say), (~say).text()]
['((a or b) then (again B))', [1, 1, 2, 1, 1, 2], [(0, 1), (0, 2), (1, 1), (1, 2), (2, 1), (2, 2)], '((again b) then (A or B))']
>>> code = Code([("load", 0, "a"), ("load", 3, "b"), ("or", 5, 0, 3), ("load", 0, "B"), ("again", 0, 0), ("then", 7, 5, 0)])
>>> [is_code_of(say, code), code.registers, in_use(code), packed(code).registers, packed(code)[5], run(code, fork)[4]]
[True, 4, [1, 2, 1, 2, 2, 1], 2, ('then', 0, 0, 1), [(2, 1), (2, 2)]]
>>> kept = Code([("keep", 0, "aaaa"), ("keep", 1, "aaa"), ("back", 0, 0, 1), ("keep", 1, "aaaa"), ("then", 0, 0, 1)])
>>> [places(kept, "aaaaa"), is_sure(kept, "aaaaa"), price(kept, {"back": 3, "keep": 1, "then": 2})]
[[[4], [3], [1], [4], [5]], True, 8]
"""
TEXTS = r"""
>>> from netkeep.log import Log, check_of
>>> from netkeep.texts import read_store, rules_text, text_of
>>> from netkeep.store import Store
>>> [text_of(Store.row("ab")), read_store("store 2\ntie 0 a 1\n").ties(), rules_text([("ab", "c")])]
['store 3\ntie 0 a 1\ntie 1 b 2\n', [(0, 'a', 1)], 'rules\nrule ab c\n']
>>> log = Log(["put", ("ask", "tie")]) + "sum"
>>> [check_of("put"), log.lines(), len(log), log.text()]
['502', ['put', 'ask', 'tie', 'sum'], 3, 'put 502\nall 2 539\nask 456\ntie 437\nsum 484\n']
>>> [Log.torn(log.text()[:-1]), Log.torn(log.text()[:20])]
[(Log(['put', ('ask', 'tie')]), 4), (Log(['put']), 1)]
"""
NET = r"""
>>> from netkeep.net import Net, tried
>>> from netkeep.store import Store
>>> net = Net(Store(3), "whether")
>>> net.do_all("put 1 b 2", "keep b", "keep ab", "put 0 a 1", "told ab", "late", "up")
['done', 'done', 'done', 'done', '0-2', '0', 'acdef']
>>> [tried(net, "strike 1 b 2", "late", "told ab"), net("hide aab"), net("grant ann ab"), net.log().entries()[-1], net.changes]
[['done', '1', '0-2'], 'done', 'done', 'grant ann ab', 6]
>>> Net(Store(3), "whether", net.log()) == net
True
"""


class Examples(unittest.TestCase):
    def run_example(self, name, text):
        example = doctest.DocTestParser().get_doctest(text, {}, name, name, 0)
        told = []
        results = doctest.DocTestRunner(verbose=False).run(example, out=told.append)
        self.assertEqual((results.failed, "".join(told)), (0, ""))
        self.assertGreater(results.attempted, 4)

    def test_read_me(self):
        with open(os.path.join(os.path.dirname(__file__), "..", "README.md"), encoding="utf-8") as file:
            found = re.findall(r"```\n(>>> .*?)```", file.read(), re.DOTALL)
        self.assertEqual(len(found), 1)
        self.run_example("README", found[0])

    def test_stage_1(self):
        self.run_example("stage 1", STAGE_1)

    def test_stage_2(self):
        self.run_example("stage 2", STAGE_2)

    def test_stage_3(self):
        self.run_example("stage 3", STAGE_3)

    def test_stage_4(self):
        self.run_example("stage 4", STAGE_4)
        self.run_example("upkeep", UPKEEP)

    def test_stage_5(self):
        self.run_example("stage 5", STAGE_5)

    def test_stage_6(self):
        self.run_example("stage 6", STAGE_6)

    def test_stage_7(self):
        self.run_example("stage 7", STAGE_7)

    def test_stage_8(self):
        self.run_example("stage 8", STAGE_8)

    def test_stage_9(self):
        self.run_example("texts", TEXTS)
        self.run_example("net", NET)


if __name__ == "__main__":
    unittest.main()
