"""Points [66] and [67], and netkeep/plays.py: plays, what they cost, and seals against them."""

import itertools
import random
import unittest

from netkeep.errors import InvalidNumber, InvalidPrices
from netkeep.faults import InvalidLooks, InvalidPlay, InvalidVow
from netkeep.parts import Scene
from netkeep.plays import (
    breaks, cheapest_play, cheapest_seals, cost, is_play, is_tree_against, least_cost, looked, tree_against,
)
from netkeep.store import Store
from netkeep.vows import is_kept
from scenes import Grown, great_scene, slow_holds, slow_play, slow_way, some_play, some_scene, some_vow
from support import Case, Odd, otherwise, wrong_values

TIE = (1, "b", 2)
STORE = Store(3, [(0, "a", 1), TIE])
STOP = ("stop", "cut", 1)
BODY = [("strike", TIE), ("put", TIE)]
SCENE = Scene(STORE, [TIE], {"cut": BODY}, [STOP])
VOW = [("ab", (0, 2), True)]
PRICES = {"cut": 2, STOP: 3}
CHANGE, DOOR, LAST = ("change", "cut", 0, ("put", TIE)), ("door", "cut", 1, "add"), ("stop", "add", 1)
WIDE = Scene(STORE, [TIE], {"cut": BODY, "add": [("put", TIE)]}, [STOP, CHANGE, DOOR, LAST], [("ab", "b")], True)
WORTH = {"cut": 1, "add": 10, STOP: 100, CHANGE: 1000, DOOR: 10000, LAST: 100000}
WRONG_LOOKS = wrong_values() + ["All", "rests", ["all"], ("rest",)]
WRONG_VOWS = wrong_values() + [[("ab", (0, 2), 1)], [("ab", (0, 3), True)], VOW[0]]


def slow_cost(scene, play, prices):
    return sum(prices[one] for one in slow_play(scene, play)[2])


def slow_breaks(scene, play, vow, looks):
    every, rests, _ = slow_play(scene, play)
    return not all(slow_holds(scene, state, vow) for state in (every if looks == "all" else rests))


def some_prices(rng, scene):
    return {one: rng.choice((0, 0, 1, 1, 2, 5)) for one in scene.deeds() + scene.powers()}


def slow_seals(scene, vow, prices, looks):
    """All lists of powers whose seal suffices, the cheapest first."""
    every = [list(some) for many in range(len(scene.powers()) + 1)
             for some in itertools.combinations(scene.powers(), many)]
    good = [some for some in every if Grown(scene - some).least_cost(vow, looks) is None]
    return sorted(((sum(prices[power] for power in some), len(some), some) for some in good))


def slow_is_tree(scene, vow, prices, number, value, looks):
    """Whether a value is a tree against a number, as the point says it."""
    if type(value) is not tuple or len(value) != 2 or type(value[1]) is not dict:
        return False
    play, trees = value
    told = slow_play(scene, play)
    if told is None or not slow_breaks(scene, play, vow, looks):
        return False
    wanted = {power for power in told[2] if type(power) is tuple and prices[power] <= number}
    if sorted(map(repr, trees)) != sorted(map(repr, wanted)):
        return False
    return all(slow_is_tree(scene - [power], vow, prices, number - prices[power], trees[power], looks) for power in trees)


class Plays(Case):
    def test_ordinary(self):
        for play in ([], (), [("cut", [])], [("cut", ["next"])], [("cut", ["next", "stop"])], [("cut", ("next", "next"))],
                     [("cut", ["next", "next"]), ("cut", ["next", "stop"]), ("cut", ["next"])]):
            self.is_bool(True, is_play(SCENE, play))
        for play in ([("cut", ["stop"])], [("cut", ["next", "next", "next"])], [("cut", ["next", "stop", "next"])],
                     [("cut", ["next"]), ("cut", ["next", "next"])], [("cut", []), ("cut", [])], ("cut", ["next"]),
                     [["cut", ["next"]]], [("add", ["next"])], [("cut", "next")], [("cut", ["Next"])], [("cut", [None])],
                     [("cut",)], [("cut", ["next"], 0)], [("cut", {"next": 1})], [("cut", [("stop",)])], "next",
                     [("cut", ["next", ("door", ("cut", ["next", "next"]))])], [("cut", [("change", BODY[0])])]):
            self.is_bool(False, is_play(scene=SCENE, value=play))
        for value in wrong_values():
            self.is_bool(value in ([], ()) and type(value) in (list, tuple), is_play(SCENE, value))

    def test_changes_and_doors_at_their_places(self):
        change, door, cut = ("change", ("put", TIE)), ("door", ("add", ["next"])), ("door", ("add", []))
        for steps in ([change], [change, change, "next"], ["next", door, "next"], ["next", door, door, "stop"],
                      ["next", cut], ["next", door, cut], ["next", ("door", ("add", ["next", "stop"])), "next"]):
            self.is_bool(True, is_play(WIDE, [("cut", steps)]))
        for steps in (["next", change], [door], ["next", "next", door], ["next", cut, "next"], ["next", cut, "stop"],
                      [("change", ("strike", TIE))], ["next", ("door", ("cut", ["next", "next"]))],
                      ["next", ("door", ("add", ["stop"]))], ["next", ("door", ("add", ["next", "next"]))],
                      [("change", ["put", TIE])], [["change", ("put", TIE)]], [("change", ("put", (True, "b", 2)))],
                      [("change", BODY[1], 0)], ["next", ("door",)], ["next", ("door", "add")], ["next", "door"]):
            self.is_bool(False, is_play(WIDE, [("cut", steps)]))

    def test_cut_doors_wherever_they_stand(self):
        # All changes of the outer body are done, but the body of the door is not over.
        last = Scene(STORE, [TIE], {"cut": BODY, "add": [("put", TIE)]}, [("door", "cut", 2, "add"), ("door", "add", 0, "cut")])
        cut = ("cut", ["next", "next", ("door", ("add", []))])
        whole = ("cut", ["next", "next", ("door", ("add", ["next"]))])
        self.is_bool(True, is_play(last, [cut]))
        self.is_bool(False, is_play(last, [cut, whole]))
        self.is_bool(True, is_play(last, [whole, cut]))
        deep = ("add", [("door", ("cut", ["next", "next", ("door", ("add", []))]))])
        self.is_bool(True, is_play(last, [whole, deep]))
        self.is_bool(False, is_play(last, [deep, whole]))
        self.is_bool(False, is_play(last, [("add", [deep[1][0], "next"])]))
        self.assertEqual(looked(last, [cut], "rest"), [(1,)])
        self.assertEqual(looked(last, [whole], "rest"), [(1,), (1,)])

    def test_plays_that_are_otherwise(self):
        play = [("cut", [("change", ("put", TIE)), "next", ("door", ("add", ["next", "stop"])), "stop"]), ("add", ["next"]),
                ("cut", ["next", ("door", ("add", ["next"])), ("door", ("add", []))])]
        self.is_bool(True, is_play(WIDE, play))
        good = 0
        for value in otherwise(play):
            told = slow_play(WIDE, value)
            good += told is not None
            self.is_bool(told is not None, is_play(WIDE, value))
            if told is not None:
                self.assertEqual((looked(WIDE, value), looked(WIDE, value, "rest")), told[:2])
                self.assertEqual(cost(WIDE, value, WORTH), slow_cost(WIDE, value, WORTH))
        self.assertGreater(good, 20)

    def test_random_plays(self):
        rng = random.Random(153)
        duties, deep, cut = 0, 0, 0
        for _ in range(400):
            scene = some_scene(rng, many_loose=4, powers=8)
            play, vow, prices = some_play(rng, scene), some_vow(rng, scene), some_prices(rng, scene)
            told = slow_play(scene, play)
            self.is_bool(told is not None, is_play(scene, play))
            if told is None:
                continue
            duties += any(slow_way(scene, state) for state in told[0])
            deep += "door" in repr(play)
            cut += len(told[1]) <= len(play)
            self.assertEqual((looked(scene, play), looked(scene, tuple(play), "rest")), told[:2])
            self.assertEqual(cost(scene, play, prices), slow_cost(scene, play, prices))
            for looks in ("all", "rest"):
                self.is_bool(slow_breaks(scene, play, vow, looks), breaks(scene, play, vow, looks))
        self.assertGreater(min(duties, deep, cut), 40)

    def test_looked(self):
        play = [("cut", ["next", "stop"]), ("cut", ["next", "next"])]
        self.assertEqual(looked(SCENE, play), [(1,), (0,), (0,), (1,)])
        self.assertEqual(looked(scene=SCENE, play=play, looks="rest"), [(1,), (0,), (1,)])
        self.assertEqual((looked(SCENE, []), looked(SCENE, [], "rest")), ([(1,)], [(1,)]))
        self.assertEqual(looked(SCENE, [("cut", ["next"])], "rest"), [(1,)])
        self.assertEqual(looked(SCENE, [("cut", ["next"])], "all"), [(1,), (0,)])

    def test_looks_of_the_duty(self):
        loose = [(0, "b", 1), (0, "c", 1)]
        scene = Scene(Store(2, [(0, "a", 1)] + loose), loose, {"go": [("strike", loose[0]), ("strike", loose[1])]},
                      [("stop", "go", 0)], [("a", "c"), ("c", "b")], True)
        whole, part = ("go", ["next", "next"]), ("go", ["next"])
        self.assertEqual(looked(scene, [whole]), [(1, 1), (0, 1), (0, 0), (0, 1), (1, 1)])
        self.assertEqual(looked(scene, [whole, part]), [(1, 1), (0, 1), (0, 0), (0, 1), (1, 1), (0, 1)])
        self.assertEqual(looked(scene, [whole, part], "rest"), [(1, 1), (1, 1)])
        self.assertEqual(looked(scene, [("go", ["stop"])]), [(1, 1)])
        self.assertEqual(looked(scene, [("go", ["stop"])], "rest"), [(1, 1), (1, 1)])
        self.is_bool(True, breaks(scene, [whole], [("b", (0, 1), True)]))
        self.is_bool(False, breaks(scene=scene, play=[whole], vow=[("b", (0, 1), True)], looks="rest"))

    def test_breaks_and_cost(self):
        self.is_bool(True, breaks(SCENE, [("cut", ["next", "stop"])], VOW, "rest"))
        self.is_bool(False, breaks(SCENE, [("cut", ["next", "next"])], VOW, "rest"))
        self.is_bool(True, breaks(SCENE, [("cut", ["next", "next"])], VOW, "all"))
        self.is_bool(False, breaks(SCENE, [], VOW))
        self.is_bool(True, breaks(SCENE, [], [("b", (1, 2), False)], "rest"))
        self.assertEqual(cost(SCENE, [], PRICES), 0)
        self.assertEqual(cost(scene=SCENE, play=[("cut", ["next", "stop"]), ("cut", [])], prices=PRICES), 7)
        deep = [("cut", [("change", ("put", TIE)), ("change", ("put", TIE)), "next", ("door", ("add", ["next", "stop"])), "stop"])]
        # The deed behind a door is not called from outside.
        self.assertEqual(cost(WIDE, deep, WORTH), 1 + 2000 + 10000 + 100000 + 100)


class Errors(Case):
    def test_play(self):
        for value in wrong_values() + [[("cut", ["stop"])], [("cut", []), ("cut", [])]]:
            if not (type(value) in (list, tuple) and not value):
                self.refuses(InvalidPlay, {"value": value}, looked, SCENE, value, None)
                self.refuses(InvalidPlay, {"value": value}, breaks, SCENE, value, None, None)
                self.refuses(InvalidPlay, {"value": value}, cost, SCENE, value, None)

    def test_prices(self):
        wrong = wrong_values() + [{}, {"cut": 2}, {STOP: 3}, {**PRICES, "add": 1}, {"cut": 2, STOP: -1}, {"cut": True, STOP: 3},
                                  {"cut": 2, ("stop", "cut", True): 3}, {"cut": 2, ("stop", "cut", 2): 3}, {"cut": "2", STOP: 3},
                                  {"cut": 2, STOP: None}, {"cat": 2, STOP: 3}, {0: 2, STOP: 3}, {None: 2, STOP: 3}, [PRICES]]
        for value in wrong:
            self.refuses(InvalidPrices, {"value": value}, cost, SCENE, [], value)
            self.refuses(InvalidPrices, {"value": value}, cheapest_play, SCENE, VOW, value, None)
            self.refuses(InvalidPrices, {"value": value}, least_cost, SCENE, VOW, value, None)
            self.refuses(InvalidPrices, {"value": value}, cheapest_seals, SCENE, VOW, value, None)
            self.refuses(InvalidPrices, {"value": value}, tree_against, SCENE, VOW, value, None, None)
            self.refuses(InvalidPrices, {"value": value}, is_tree_against, SCENE, VOW, value, None, None, None)
        change = {**WORTH}
        del change[CHANGE]
        change["change", "cut", 0, ("put", (True, "b", 2))] = 5
        self.refuses(InvalidPrices, {"value": change}, cost, WIDE, [], change)

    def test_vows_looks_and_numbers_in_sequence(self):
        priced = [(cheapest_play, ()), (least_cost, ()), (cheapest_seals, ()), (tree_against, (None,)),
                  (is_tree_against, (None, None))]
        for value in WRONG_VOWS:
            self.refuses(InvalidVow, {"value": value}, breaks, SCENE, [], value, None)
            for call, more in priced:
                self.refuses(InvalidVow, {"value": value}, call, SCENE, value, None, *more, None)
        for value in WRONG_LOOKS:
            self.refuses(InvalidLooks, {"value": value}, looked, SCENE, [], value)
            self.refuses(InvalidLooks, {"value": value}, breaks, SCENE, [], VOW, value)
            for call, more in ((cheapest_play, ()), (least_cost, ()), (cheapest_seals, ()), (tree_against, (0,)),
                               (is_tree_against, (0, None))):
                self.refuses(InvalidLooks, {"value": value}, call, SCENE, VOW, PRICES, *more, value)
        for value in wrong_values() + [-1, True, "0"]:
            if type(value) is not int or value < 0:
                self.refuses(InvalidNumber, {"value": value}, tree_against, SCENE, VOW, PRICES, value, None)
                self.refuses(InvalidNumber, {"value": value}, is_tree_against, SCENE, VOW, PRICES, value, None, None)


class Cheapest(Case):
    def test_ordinary(self):
        self.assertEqual(cheapest_play(SCENE, VOW, PRICES, "rest"), [("cut", ["next", "stop"])])
        self.assertEqual(least_cost(SCENE, VOW, PRICES), 2)
        self.assertEqual(least_cost(scene=SCENE, vow=VOW, prices=PRICES, looks="rest"), 5)
        self.assertIsNone(cheapest_play(SCENE - [STOP], VOW, {"cut": 2}, "rest"))
        self.assertIsNone(least_cost(SCENE - [STOP], VOW, {"cut": 2}, "rest"))
        self.assertEqual(cheapest_play(scene=SCENE, vow=[("b", (1, 2), False)], prices=PRICES, looks="rest"), [])
        self.assertEqual(least_cost(SCENE, [("b", (1, 2), False)], PRICES), 0)

    def test_against_growing(self):
        rng = random.Random(151)
        none, free = 0, 0
        for _ in range(350):
            scene = some_scene(rng, many_loose=4, powers=rng.choice((0, 2, 8)))
            vow = some_vow(rng, scene)
            prices = some_prices(rng, scene)
            grown = Grown(scene, prices)
            for looks in ("all", "rest"):
                least = grown.least_cost(vow, looks)
                self.assertEqual(least_cost(scene, vow, prices, looks), least)
                play = cheapest_play(scene, vow, prices, looks)
                self.assertEqual(play is None, least is None)
                self.assertEqual(least is None, is_kept(scene, vow, looks))
                none += play is None
                if play is not None:
                    self.look_at(scene, vow, prices, looks, play, least)
                    free += least == 0 and play != []
        self.assertGreater(none, 60)
        self.assertGreater(free, 5)

    def look_at(self, scene, vow, prices, looks, play, least):
        told = slow_play(scene, play)
        self.assertIsNotNone(told)
        self.assertIs(type(play), list)
        self.assertTrue(slow_breaks(scene, play, vow, looks))
        self.assertEqual(slow_cost(scene, play, prices), least)
        self.is_bool(True, is_play(scene, play))
        self.is_bool(True, breaks(scene, play, vow, looks))
        self.assertEqual(cost(scene, play, prices), least)
        self.assertEqual((looked(scene, play), looked(scene, play, "rest")), told[:2])

    def test_one_call_behind_another(self):
        ties = [(0, letter, 0) for letter in "abcde"]
        bodies = {"x": [("put", ties[0])], "y": [("put", ties[1]), ("strike", ties[0])], "z": [("put", ties[2])]}
        door = ("door", "z", 1, "x")
        for duty, vow in ((False, [("abc", (0, 0), False)]), (True, [("aec", (0, 0), False)]), (True, [("d", (0, 0), False)])):
            scene = Scene(Store(1), ties, bodies, [door], [("b", "e"), ("ea", "d")], duty)
            for price in (0, 3, 9):
                prices = {"x": 4, "y": 5, "z": 1, door: price}
                grown = Grown(scene, prices)
                for looks in ("all", "rest"):
                    play = cheapest_play(scene, vow, prices, looks)
                    self.assertGreater(len(play), 1)
                    self.look_at(scene, vow, prices, looks, play, grown.least_cost(vow, looks))
        # What the duty puts in comes behind the first call, and is there in the second one.
        scene = Scene(Store(1), ties, {"y": [("put", ties[1])], "x": [("put", ties[0])]}, [], [("b", "e")], True)
        prices = {"x": 1, "y": 1}
        self.look_at(scene, [("ea", (0, 0), False)], prices, "all", cheapest_play(scene, [("ea", (0, 0), False)], prices), 2)
        self.assertIsNone(cheapest_play(scene.with_duty(False), [("ea", (0, 0), False)], prices))

    def test_deep_doors(self):
        ties = [(0, letter, 0) for letter in "abcdef"]
        bodies = {"p": [("put", ties[0]), ("put", ties[1]), ("strike", ties[0])],
                  "q": [("put", ties[2]), ("strike", ties[1]), ("put", ties[3])],
                  "r": [("put", ties[4]), ("strike", ties[2]), ("strike", ties[3])],
                  "s": [("put", ties[5]), ("strike", ties[4]), ("strike", ties[0])]}
        powers = [("door", "p", 2, "q"), ("door", "q", 1, "r"), ("door", "r", 1, "s"), ("door", "s", 1, "p"),
                  ("stop", "s", 0)]
        scene = Scene(Store(1), ties, bodies, powers)
        prices = {one: int(one == "p") for one in scene.deeds() + powers}
        grown = Grown(scene, prices)
        for at in range(6):
            for other in range(6):
                vow = [("abcdef"[at], (0, 0), False), ("abcdef"[other], (0, 0), True)]
                for many in ((vow, "all"), (vow[:1], "rest")):
                    play = cheapest_play(scene, many[0], prices, many[1])
                    least = grown.least_cost(*many)
                    self.assertEqual(least_cost(scene, many[0], prices, many[1]), least)
                    if play is not None:
                        self.look_at(scene, many[0], prices, many[1], play, least)
        for state in list(grown.looked("all"))[::3]:
            vow = [("abcdef"[at], (0, 0), not one) for at, one in enumerate(state)]
            self.assertTrue(all(self.depth(cheapest_play(scene, vow[:many], prices)) <= 100 for many in range(1, 7)))

    def depth(self, value):
        return 1 + max(map(self.depth, value), default=0) if type(value) in (list, tuple) else 0

    def test_great_prices(self):
        prices = {"cut": 10 ** 29, STOP: 10 ** 30 - 1}
        self.assertEqual(least_cost(SCENE, VOW, prices, "rest"), 10 ** 30 - 1 + 10 ** 29)


class Seals(Case):
    def test_ordinary(self):
        self.assertEqual(cheapest_seals(SCENE, VOW, PRICES, "rest"), (3, [STOP]))
        self.assertIsNone(cheapest_seals(scene=SCENE, vow=VOW, prices=PRICES))
        self.assertEqual(cheapest_seals(scene=SCENE, vow=[("a", (0, 1), True)], prices=PRICES, looks="all"), (0, []))
        play = ([("cut", ["next", "stop"])], {})
        self.is_bool(True, is_tree_against(SCENE, VOW, PRICES, 2, play, "rest"))
        self.is_bool(False, is_tree_against(SCENE, VOW, PRICES, 3, play, "rest"))
        self.is_bool(True, is_tree_against(scene=SCENE, vow=VOW, prices=PRICES, number=2, value=play, looks="all"))
        self.assertIsNone(tree_against(scene=SCENE, vow=VOW, prices=PRICES, number=3, looks="rest"))
        self.assertEqual(tree_against(SCENE, VOW, PRICES, 2, "rest"), play)
        self.is_bool(True, is_tree_against(SCENE, VOW, PRICES, 99, tree_against(SCENE, VOW, PRICES, 99)))
        self.is_bool(False, is_tree_against(SCENE, [("a", (0, 1), True)], PRICES, 0, ([], {})))

    def test_the_cheapest_ones_among_equals(self):
        bodies = {"go": [("put", TIE)]}
        stops = [("change", "go", 0, ("strike", TIE)), ("change", "go", 1, ("strike", TIE))]
        scene = Scene(STORE, [TIE], bodies, stops + [("door", "go", 1, "go")])
        prices = {"go": 1, stops[0]: 0, stops[1]: 0, ("door", "go", 1, "go"): 0}
        self.assertEqual(cheapest_seals(scene, VOW, prices, "rest"), (0, [stops[1]]))
        self.assertEqual(cheapest_seals(scene, VOW, prices), (0, stops))
        both = Scene(STORE, [TIE], bodies, [("stop", "go", 0), stops[1]])
        self.assertEqual(cheapest_seals(both, VOW, {"go": 0, ("stop", "go", 0): 5, stops[1]: 7}, "rest"), (7, [stops[1]]))

    def test_against_trying_all(self):
        rng = random.Random(152)
        kinds = {"none": 0, "some": 0, "kept": 0}
        while min(kinds.values()) < 25:
            scene = some_scene(rng, powers=6)
            vow = some_vow(rng, scene)
            prices = some_prices(rng, scene)
            for looks in ("all", "rest"):
                broken = Grown(scene).least_cost(vow, looks) is not None
                kind = "kept"
                if broken:
                    kind = "none" if Grown(scene - scene.powers()).least_cost(vow, looks) is not None else "some"
                if kinds[kind] > 25:
                    continue
                kinds[kind] += 1
                good = slow_seals(scene, vow, prices, looks)
                told = cheapest_seals(scene, vow, prices, looks)
                self.assertEqual(told, None if not good else (good[0][0], good[0][2]))
                self.assertEqual(told is None, kind == "none")
                self.look_at_trees(scene, vow, prices, looks, None if told is None else told[0])

    def look_at_trees(self, scene, vow, prices, looks, price):
        for number in (0, 1, 2, 4, 99):
            tree = tree_against(scene, vow, prices, number, looks)
            self.assertEqual(tree is None, price is not None and price <= number)
            self.is_bool(tree is not None, is_tree_against(scene, vow, prices, number, tree, looks))
            if tree is not None:
                self.assertTrue(slow_is_tree(scene, vow, prices, number, tree, looks))
                for other in (0, 1, 3):
                    self.is_bool(slow_is_tree(scene, vow, prices, other, tree, looks),
                                 is_tree_against(scene, vow, prices, other, tree, looks))

    def test_trees_that_are_otherwise(self):
        stops = [("change", "cut", 2, ("strike", TIE)), STOP]
        scene = Scene(STORE, [TIE], {"cut": BODY}, stops)
        prices = {"cut": 0, stops[0]: 1, STOP: 1}
        tree = tree_against(scene, VOW, prices, 1, "rest")
        self.assertEqual(len(tree[1]), 1)
        for value in otherwise(tree):
            self.is_bool(slow_is_tree(scene, VOW, prices, 1, value, "rest"),
                         is_tree_against(scene, VOW, prices, 1, value, "rest"))
        for change in ({("stop", "cut", True): tree}, {STOP: tree[1]}, {"cut": tree}, {None: tree}, {}, [], None):
            self.is_bool(slow_is_tree(scene, VOW, prices, 1, (tree[0], change), "rest"),
                         is_tree_against(scene, VOW, prices, 1, (tree[0], change), "rest"))
        spoiled = {("stop", "cut", True): tree[1][STOP]} if STOP in tree[1] else {}
        self.is_bool(False, is_tree_against(scene, VOW, prices, 1, (tree[0], spoiled), "rest"))

    def test_trees_of_many_branches(self):
        # To keep the vow one of both has to be sealed at each of two places, so that each play uses a pair of powers.
        other = (0, "b", 0)
        powers = [("change", "go", 0, ("strike", TIE)), ("change", "go", 1, ("strike", other)), ("door", "go", 1, "go")]
        scene = Scene(STORE + other, [other, TIE], {"go": [("put", (0, "b", 0))]}, powers)
        vow = [("b", (1, 2), True), ("b", (0, 0), True)]
        prices = {"go": 0, powers[0]: 1, powers[1]: 1, powers[2]: 0}
        both = [("go", [("change", ("strike", TIE)), "next", ("change", ("strike", other))])]
        first, second = [("go", both[0][1][:2])], [("go", both[0][1][1:])]
        good = (both, {powers[0]: (second, {}), powers[1]: (first, {})})
        for tree in (good, (both, {powers[1]: (first, {}), powers[0]: (second, {})})):
            self.assertTrue(slow_is_tree(scene, vow, prices, 1, tree, "rest"))
            self.is_bool(True, is_tree_against(scene, vow, prices, 1, tree, "rest"))
        # A play below may not use what is sealed above.
        for below in ({powers[0]: (both, {}), powers[1]: (first, {})}, {powers[0]: (first, {}), powers[1]: (first, {})},
                      {powers[0]: (second, {})}, {**good[1], powers[2]: (second, {})}):
            self.assertFalse(slow_is_tree(scene, vow, prices, 1, (both, below), "rest"))
            self.is_bool(False, is_tree_against(scene, vow, prices, 1, (both, below), "rest"))
        for value in otherwise(good):
            self.is_bool(slow_is_tree(scene, vow, prices, 1, value, "rest"),
                         is_tree_against(scene, vow, prices, 1, value, "rest"))

    def test_sorted_keys(self):
        # All three powers of a deed are needed to leave both ties struck behind it.
        other = (0, "b", 2)
        bodies = {deed: [("put", TIE), ("put", other)] for deed in ("go", "on")}
        powers = [("stop", deed, 0) for deed in bodies]
        powers += [("change", deed, 0, ("strike", tie)) for deed in bodies for tie in (TIE, other)]
        scene = Scene(STORE + (0, "a", 0) + other, [TIE, other], bodies, powers)
        prices = {one: 1 for one in scene.deeds() + powers}
        tree = tree_against(scene, VOW, prices, 1, "rest")
        self.assertEqual(list(tree[1]), sorted(tree[1]))
        self.assertEqual(len(tree[1]), 3)
        self.assertTrue(slow_is_tree(scene, VOW, prices, 1, tree, "rest"))
        turned = (tree[0], {power: tree[1][power] for power in reversed(list(tree[1]))})
        self.is_bool(True, is_tree_against(scene, VOW, prices, 1, turned, "rest"))
        self.assertEqual(cheapest_seals(scene, VOW, prices, "rest"), (2, [sorted(powers)[0], sorted(powers)[2]]))
        self.assertIsNone(tree_against(scene, VOW, prices, 2, "rest"))

    def test_more_powers_may_be_cheaper_than_one(self):
        # To break the vow the first power is needed, and one of the two others.
        other = (0, "b", 2)
        bodies = {"go": [("put", TIE), ("put", other)], "on": [("put", other)]}
        powers = [("change", "go", 2, ("strike", TIE)), ("change", "go", 2, ("strike", other)),
                  ("change", "on", 1, ("strike", other))]
        scene = Scene(STORE + (0, "a", 0) + other, [TIE, other], bodies, powers)
        prices = {"go": 0, "on": 0, powers[0]: 5, powers[1]: 1, powers[2]: 1}
        self.assertEqual(cheapest_seals(scene, VOW, prices, "rest"), (2, powers[1:]))
        self.assertEqual(cheapest_seals(scene, VOW, {**prices, powers[0]: 2}, "rest"), (2, powers[:1]))
        self.assertEqual(cheapest_seals(scene, VOW, {**prices, powers[0]: 1}, "rest"), (1, powers[:1]))
        self.is_bool(True, is_tree_against(scene, VOW, prices, 1, tree_against(scene, VOW, prices, 1, "rest"), "rest"))

    def test_eight_powers(self):
        scene = great_scene([("aa", "a")])
        prices = {one: at + 1 for at, one in enumerate(scene.deeds() + scene.powers())}
        grown = Grown(scene, prices)
        for vow in ([("a", (0, 1), False)], [("aa", (0, 2), False)], [("aaa", (1, 1), False), ("a", (0, 2), False)]):
            for looks in ("all", "rest"):
                self.assertEqual(least_cost(scene, vow, prices, looks), grown.least_cost(vow, looks))
                told = cheapest_seals(scene, vow, prices, looks)
                number = 99 if told is None else told[0] - 1
                if told is not None:
                    self.is_bool(True, is_kept(scene - told[1], vow, looks))
                    self.assertIsNone(tree_against(scene, vow, prices, told[0], looks))
                if number >= 0:
                    tree = tree_against(scene, vow, prices, number, looks)
                    self.is_bool(True, is_tree_against(scene, vow, prices, number, tree, looks))


if __name__ == "__main__":
    unittest.main()
