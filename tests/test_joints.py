"""Point [74] and netkeep/joints.py: joints, which of them are enough, what they cost, and trees of misses."""

import random
import unittest

from netkeep.errors import InvalidNumber, InvalidPrices
from netkeep.explained import order_for
from netkeep.faults import InvalidJoints, InvalidWeaving
from netkeep.joints import (
    are_enough, cheapest_joints, is_tree_of_misses, joints, keeps, least_joints, tree_of_misses,
)
from netkeep.weaving import Sessions, weavings
from support import Case, Odd, Same, otherwise, subsets, wrong_values
from woven import some_sessions

ASK, PUT, STRIKE = ("ask", "a"), ("put", (0, "a", 1)), ("strike", (0, "a", 1))
TWO = Sessions(2, [[ASK, ASK], [PUT]])
PLAIN = Sessions(2, [[PUT, PUT, PUT], [ASK]])
THREE = Sessions(2, [[PUT, ASK, STRIKE], [ASK, ("ask", "ab")], [("put", (1, "b", 1)), ASK]])
WORTH = {(0, 0): 2, (0, 1): 0, (1, 0): 1, (2, 0): 1}
WRONG_LISTS = [None, True, 0, "abc", "", {}, {(0, 0): 1}, Odd(), TWO]
WRONG_JOINTS = wrong_values() + [(0, 1), (1, 0), (0, 2), (2, 0), (-1, 0), (0, -1), [0, 0], (0, False), (False, 0),
                                 (0, 0, 0), (0,), "00", Same()]


def slow_keeps(weaving, some):
    """Whether a weaving keeps joints, place by place."""
    for number, at in some:
        places = [place for place, other in enumerate(weaving) if other == number]
        if places[at + 1] != places[at] + 1:
            return False
    return True


KNOWN = {}


def missed(sessions):
    """The missed weavings, worked out once for each sessions."""
    if repr(sessions) not in KNOWN:
        KNOWN[repr(sessions)] = [one for one in weavings(sessions) if order_for(sessions, one) is None]
    return KNOWN[repr(sessions)]


def slow_joints(sessions):
    return sorted((number, at) for number, program in enumerate(sessions.programs()) for at in range(len(program) - 1))


def slow_enough(sessions):
    """All lists of enough joints."""
    some_missed = missed(sessions)
    return [some for some in subsets(slow_joints(sessions))
            if not any(slow_keeps(weaving, some) for weaving in some_missed)]


def slow_is_tree(sessions, prices, number, value, taken=(), given_up=()):
    """Whether a value is a tree of misses, as the point says it."""
    if type(value) is not tuple or len(value) != 2 or type(value[0]) is not tuple or type(value[1]) is not dict:
        return False
    weaving, trees = value
    if any(type(one) is not int for one in weaving) or weaving not in missed(sessions) or not slow_keeps(weaving, taken):
        return False
    wanted = [joint for joint in slow_joints(sessions)
              if not slow_keeps(weaving, [joint]) and joint not in given_up and prices[joint] <= number]
    if sorted(map(repr, trees)) != sorted(map(repr, wanted)):
        return False
    return all(slow_is_tree(sessions, prices, number - prices[joint], trees[joint], (*taken, joint),
                            (*given_up, *[other for other in wanted if other < joint])) for joint in wanted)


class Joints(Case):
    def test_ordinary(self):
        self.assertEqual(joints(TWO), [(0, 0)])
        self.assertEqual(joints(sessions=THREE), [(0, 0), (0, 1), (1, 0), (2, 0)])
        self.assertEqual(joints(Sessions(1, [[ASK], [ASK]])), [])
        self.is_bool(True, keeps(TWO, (0, 0, 1), [(0, 0)]))
        self.is_bool(False, keeps(sessions=TWO, weaving=[0, 1, 0], some=((0, 0),)))
        self.is_bool(True, keeps(TWO, [0, 1, 0], []))
        self.is_bool(False, keeps(THREE, (0, 1, 1, 0, 2, 2, 0), [(1, 0), (0, 0)]))
        self.is_bool(True, keeps(THREE, (0, 1, 1, 0, 2, 2, 0), ((2, 0), (1, 0))))
        self.is_bool(True, are_enough(TWO, [(0, 0)]))
        self.is_bool(False, are_enough(sessions=TWO, some=()))
        self.assertEqual(least_joints(TWO), [[(0, 0)]])
        self.assertEqual(least_joints(sessions=PLAIN), [[]])
        self.assertEqual(cheapest_joints(TWO, {(0, 0): 7}), (7, [(0, 0)]))
        self.assertEqual(cheapest_joints(sessions=PLAIN, prices={(0, 0): 1, (0, 1): 0}), (0, []))
        self.assertEqual(cheapest_joints(Sessions(1, [[ASK], [ASK]]), {}), (0, []))

    def test_against_trying_all_parts(self):
        rng = random.Random(176)
        many = 0
        for _ in range(60):
            sessions = some_sessions(rng)
            enough = slow_enough(sessions)
            many += len(enough[0]) > 1
            least = [some for some in enough if not any(set(less) < set(some) for less in enough)]
            self.assertEqual(joints(sessions), slow_joints(sessions))
            self.assertEqual(least_joints(sessions), sorted(least))
            for some in subsets(slow_joints(sessions)):
                self.is_bool(some in enough, are_enough(sessions, some[::-1]))
            prices = {joint: rng.choice((0, 0, 1, 1, 2, 5)) for joint in rng.sample(joints(sessions), len(joints(sessions)))}
            told = min((sum(prices[joint] for joint in some), some) for some in enough)
            self.assertEqual(cheapest_joints(sessions, prices), told)
            for weaving in rng.sample(weavings(sessions), min(4, len(weavings(sessions)))):
                for some in rng.sample(subsets(joints(sessions)), min(6, len(subsets(joints(sessions))))):
                    self.is_bool(slow_keeps(weaving, some), keeps(sessions, weaving, some))
        self.assertGreater(many, 10)

    def test_sorted_as_python_compares_lists(self):
        some = Sessions(2, [[PUT, ("strike", (1, "b", 0)), ("ask", "aa")], [STRIKE, PUT]])
        self.assertEqual(least_joints(some), [[(0, 0), (0, 1)], [(1, 0)]])

    def test_prices_of_0(self):
        some = Sessions(2, [[PUT, ASK, STRIKE], [ASK, ASK]])
        self.assertEqual(least_joints(some), [[(0, 0), (0, 1), (1, 0)]])
        free = Sessions(2, [[ASK, ASK], [PUT, ("ask", "b")]])
        self.assertEqual(least_joints(free), [[(0, 0)]])
        self.assertEqual(cheapest_joints(free, {(0, 0): 3, (1, 0): 0}), (3, [(0, 0)]))
        turned = Sessions(2, [[PUT, ("ask", "b")], [ASK, ASK]])
        self.assertEqual(least_joints(turned), [[(1, 0)]])
        # [(0, 0), (1, 0)] is not least, but Python puts it ahead of [(1, 0)], and it costs as much.
        self.assertEqual(cheapest_joints(turned, {(0, 0): 0, (1, 0): 3}), (3, [(0, 0), (1, 0)]))
        self.assertEqual(cheapest_joints(turned, {(0, 0): 1, (1, 0): 3}), (3, [(1, 0)]))

    def test_errors_in_sequence(self):
        for value in WRONG_LISTS:
            self.refuses(InvalidJoints, {"position": None}, keeps, TWO, (0, 0, 1), value)
            self.refuses(InvalidJoints, {"position": None}, are_enough, TWO, value)
        for value in WRONG_JOINTS:
            self.refuses(InvalidJoints, {"position": 0}, keeps, TWO, (0, 0, 1), [value])
            self.refuses(InvalidJoints, {"position": 1}, are_enough, TWO, ((0, 0), value, None))
            self.refuses(InvalidWeaving, {"value": value}, keeps, TWO, value, None)
        self.refuses(InvalidJoints, {"position": 1}, are_enough, TWO, [(0, 0), (0, 0)])
        self.refuses(InvalidJoints, {"position": 2}, keeps, THREE, (0, 0, 0, 1, 1, 2, 2), [(0, 0), (1, 0), (0, 0)])
        wrong = wrong_values() + [[((0, 0), 1)], {(0, 0): -1}, {(0, 0): True}, {(0, 0): None}, {(0, 0): "1"}, {(0, 1): 1},
                                  {(0, 0): 1, (0, 1): 1}, {(0, False): 1}, {(False, 0): 1}, {"00": 1}, {0: 1}, {None: 1},
                                  {Same(): 1}, {(0, 0): 1, Same(): 1}, {(0, 0, 0): 1}]
        for value in wrong:
            self.refuses(InvalidPrices, {"value": value}, cheapest_joints, TWO, value)
            self.refuses(InvalidPrices, {"value": value}, tree_of_misses, TWO, value, None)
            self.refuses(InvalidPrices, {"value": value}, is_tree_of_misses, TWO, value, None, None)
        self.refuses(InvalidPrices, {}, cheapest_joints, THREE, {joint: 1 for joint in joints(THREE)[1:]})
        for value in wrong_values() + [-1, True, False, "1", None, [1]]:
            if not (type(value) is int and value >= 0):
                self.refuses(InvalidNumber, {"value": value}, tree_of_misses, TWO, {(0, 0): 1}, value)
                self.refuses(InvalidNumber, {"value": value}, is_tree_of_misses, TWO, {(0, 0): 1}, value, None)

    def test_the_sequence_of_the_prices_has_no_effect(self):
        turned = dict(reversed(WORTH.items()))
        self.assertEqual(cheapest_joints(THREE, WORTH), cheapest_joints(THREE, turned))
        self.assertEqual(tree_of_misses(THREE, WORTH, 2), tree_of_misses(THREE, turned, 2))


class Trees(Case):
    def test_ordinary(self):
        tree = ((0, 1, 0), {})
        self.assertEqual(tree_of_misses(TWO, {(0, 0): 7}, 6), tree)
        self.assertIsNone(tree_of_misses(TWO, {(0, 0): 7}, 7))
        self.is_bool(True, is_tree_of_misses(TWO, {(0, 0): 7}, 6, tree))
        self.is_bool(False, is_tree_of_misses(TWO, {(0, 0): 7}, 7, tree))
        self.is_bool(False, is_tree_of_misses(sessions=TWO, prices={(0, 0): 7}, number=6, value=((0, 0, 1), {})))
        self.assertIsNone(tree_of_misses(PLAIN, {(0, 0): 1, (0, 1): 1}, 0))
        self.is_bool(False, is_tree_of_misses(PLAIN, {(0, 0): 1, (0, 1): 1}, 0, ((0, 1, 0, 0), {})))

    def test_there_is_one_exactly_below_the_price(self):
        rng = random.Random(177)
        deep = 0
        for _ in range(40):
            sessions = some_sessions(rng)
            prices = {joint: rng.choice((0, 1, 1, 2, 3)) for joint in joints(sessions)}
            price = cheapest_joints(sessions, prices)[0]
            for number in range(price + 2):
                tree = tree_of_misses(sessions, prices, number)
                self.assertEqual(tree is None, number >= price)
                if tree is not None:
                    deep += len(tree[1]) > 1
                    self.assertTrue(slow_is_tree(sessions, prices, number, tree))
                    self.is_bool(True, is_tree_of_misses(sessions, prices, number, tree))
                    for other in (number - 1, number + 1):
                        if other >= 0:
                            good = slow_is_tree(sessions, prices, other, tree)
                            self.is_bool(good, is_tree_of_misses(sessions, prices, other, tree))
        self.assertGreater(deep, 10)

    def test_the_sequence_of_a_dict_has_no_effect(self):
        weaving, trees = tree_of_misses(THREE, WORTH, 2)
        self.assertGreater(len(trees), 1)
        self.is_bool(True, is_tree_of_misses(THREE, WORTH, 2, (weaving, dict(reversed(trees.items())))))

    def test_values_that_are_otherwise(self):
        tree = tree_of_misses(THREE, WORTH, 2)
        self.assertGreater(len(repr(tree)), 120)
        kinds = {True: 0, False: 0}
        for value in otherwise(tree):
            good = slow_is_tree(THREE, WORTH, 2, value)
            kinds[good] += 1
            self.is_bool(good, is_tree_of_misses(THREE, WORTH, 2, value))
        self.assertGreater(kinds[False], 500)

    def test_any_missed_weaving_will_do(self):
        prices = {joint: 9 for joint in joints(THREE)}
        for weaving in weavings(THREE):
            good = weaving in missed(THREE)
            self.is_bool(good, is_tree_of_misses(THREE, prices, 8, (weaving, {})))
            self.is_bool(False, is_tree_of_misses(THREE, prices, 8, (list(weaving), {})))
            self.is_bool(False, is_tree_of_misses(THREE, prices, 9, (weaving, {})))

    def test_given_up_joints_are_not_asked_for_again(self):
        some = Sessions(2, [[PUT, ASK, STRIKE], [ASK, ASK]])
        prices = {joint: 1 for joint in joints(some)}
        self.is_bool(True, slow_is_tree(some, prices, 2, tree_of_misses(some, prices, 2)))
        def tree(behind):
            """A tree in which the weaving behind (1, 0) parts (0, 0), too, which is given up there."""
            inner = {(0, 1): ((1, 0, 0, 0, 1), {}), (1, 0): ((0, 0, 1, 1, 0), {})}
            return (0, 1, 0, 0, 1), {(0, 0): ((0, 0, 1, 0, 1), inner), (1, 0): ((0, 1, 1, 0, 0), behind)}

        self.is_bool(True, is_tree_of_misses(some, prices, 2, tree({})))
        self.is_bool(False, is_tree_of_misses(some, prices, 2, tree({(0, 0): ((0, 0, 1, 1, 0), {})})))
        self.is_bool(False, is_tree_of_misses(some, prices, 3, tree({})))
        told = tree_of_misses(some, prices, 2)
        self.assertNotIn((0, 0), told[1][1, 0][1])

    def test_wrong_keys(self):
        tree = tree_of_misses(TWO, {(0, 0): 1}, 1)
        self.assertIsNone(tree)
        weaving = (0, 1, 0)
        for trees in ({Same(): (weaving, {})}, {(0, False): (weaving, {})}, {"a": (weaving, {})}, {(0, 0): (weaving, {})},
                      {None: None}, {(0, 0): None}, [], None):
            self.is_bool(False, is_tree_of_misses(TWO, {(0, 0): 1}, 1, (weaving, trees)))

    def test_three_programs_of_three_lines(self):
        lines = [[("put", (at, "a", 1)), ("ask", "ab"), ("strike", (at, "a", 1))] for at in range(3)]
        sessions = Sessions(8, lines)
        self.assertEqual(least_joints(sessions), [joints(sessions)])
        prices = {joint: 1 for joint in joints(sessions)}
        self.is_bool(True, is_tree_of_misses(sessions, prices, 5, tree_of_misses(sessions, prices, 5)))
        self.assertIsNone(tree_of_misses(sessions, prices, 6))


if __name__ == "__main__":
    unittest.main()
