"""Points [61] to [63] and netkeep/parts.py: scenes, states, the duty, and what bodies can come to."""

import random
import unittest

from netkeep.errors import InvalidRules
from netkeep.faults import InvalidBodies, InvalidChange, InvalidLoose, InvalidPowers, InvalidState, UnknownDeed
from netkeep.parts import Scene, changed, duty_way, outcomes, rest_of, wanted
from netkeep.store import Store
from scenes import Grown, all_states, great_scene, slow_turned, slow_wanted, slow_way, some_scene
from support import Case, Odd, Same, wrong_values

TIE, OTHER = (1, "b", 2), (0, "a", 2)
STORE = Store(3, [(0, "a", 1), TIE])
BODY = [("strike", TIE), ("put", TIE)]
STOP = ("stop", "cut", 1)
SCENE = Scene(STORE, [TIE], {"cut": BODY}, [STOP])
TWO = Scene(STORE, [TIE, OTHER], {"cut": BODY, "add": [("put", OTHER)]},
            [STOP, ("door", "add", 0, "cut"), ("change", "cut", 2, ("strike", OTHER))], [("ab", "a")], True)
WRONG_LISTS = [None, True, 0, "abc", "", {}, {"a": 1}, STORE, Odd()]
SEVEN = [(0, "a", y) for y in range(3)] + [(1, "a", y) for y in range(3)] + [(2, "a", 0)]
FIVE_RULES = [("a", letter) for letter in "bcdef"]
WRONG_CHANGES = wrong_values() + [("put", OTHER), ("cut", TIE), ["put", TIE], ("put", list(TIE)), ("put", TIE, 0), ("put",),
                                  ("put", (True, "b", 2)), ("Put", TIE), (True, TIE), ("put", None), ("put", "b")]


def nine_powers():
    return [("change", "cut", place, change) for place in range(3) for change in BODY] + [
        ("stop", "cut", place) for place in range(3)]


class Made(Case):
    def test_parts(self):
        self.assertEqual(TWO.store, STORE)
        self.assertIs(TWO.duty, True)
        self.assertEqual(TWO.first_state, (0, 1))
        self.assertEqual(TWO.loose(), [OTHER, TIE])
        self.assertEqual(TWO.deeds(), ["add", "cut"])
        self.assertEqual(TWO.powers(), [("change", "cut", 2, ("strike", OTHER)), ("door", "add", 0, "cut"), STOP])
        self.assertEqual(TWO.rules(), [("ab", "a")])
        self.assertEqual((TWO.body("cut"), TWO.body(deed="add")), (BODY, [("put", OTHER)]))
        self.assertEqual((SCENE.powers(), SCENE.rules(), SCENE.first_state), ([STOP], [], (1,)))
        self.assertIs(SCENE.duty, False)
        plain = Scene(store=STORE, loose=(TIE,), deeds={"cut": tuple(BODY)})
        self.assertEqual((plain.powers(), plain.rules(), plain.duty, plain.body("cut")), ([], [], False, BODY))
        rules = Scene(STORE, [TIE], {"cut": BODY}, (), (("b", "a"), ("ab", "c")), duty=True)
        self.assertEqual(rules.rules(), [("ab", "c"), ("b", "a")])

    def test_copies_and_new_lists(self):
        loose, bodies, powers, rules = [TIE], {"cut": list(BODY)}, [STOP], [("a", "b")]
        scene = Scene(STORE, loose, bodies, powers, rules)
        loose.clear(), powers.clear(), rules.clear()
        bodies["cut"].clear()
        bodies["more"] = BODY
        for told in (scene.loose(), scene.deeds(), scene.powers(), scene.rules(), scene.body("cut")):
            told.append("x")
        self.assertEqual((scene.loose(), scene.deeds(), scene.powers(), scene.rules(), scene.body("cut")),
                         ([TIE], ["cut"], [STOP], [("a", "b")], BODY))

    def test_store_at(self):
        self.assertEqual(TWO.store_at((1, 0)), Store(3, [(0, "a", 1), OTHER]))
        self.assertEqual(TWO.store_at(state=(0, 1)), STORE)
        self.assertEqual(TWO.store_at((1, 1)), STORE + OTHER)
        for value in wrong_values() + [(0,), (0, 1, 0), [0, 1], (0, 2), (True, 0), (0, False), (0, None), "01", (-1, 0)]:
            self.refuses(InvalidState, {"value": value}, TWO.store_at, value)

    def test_body(self):
        for value in wrong_values() + ["cuts", "cu", ("cut",), STOP]:
            self.refuses(UnknownDeed, {"value": value}, TWO.body, value)

    def test_equal(self):
        again = Scene(STORE, (OTHER, TIE), {"add": (("put", OTHER),), "cut": BODY}, TWO.powers()[::-1], [("ab", "a")], True)
        self.assertTrue(TWO == again)
        self.assertFalse(TWO != again)
        for other in (SCENE, TWO.with_duty(False), TWO - [STOP], TWO + [("stop", "add", 0)], None, "Scene", Odd(),
                      Scene(STORE, [OTHER, TIE], {"add": [("put", OTHER)], "cut": BODY}, TWO.powers(), [("ba", "a")], True),
                      Scene(STORE, [OTHER, TIE], {"add": [("put", TIE)], "cut": BODY}, TWO.powers(), [("ab", "a")], True),
                      Scene(STORE + OTHER, [OTHER, TIE], {"add": [("put", OTHER)], "cut": BODY}, TWO.powers(),
                            [("ab", "a")], True),
                      Scene(STORE, [OTHER, TIE, (0, "c", 0)], {"add": [("put", OTHER)], "cut": BODY}, TWO.powers(),
                            [("ab", "a")], True)):
            self.assertTrue(TWO != other)
            self.assertFalse(TWO == other)

    def test_with_duty(self):
        self.assertIs(TWO.with_duty(False).duty, False)
        self.assertIs(SCENE.with_duty(duty=True).duty, True)
        self.assertEqual(TWO.with_duty(False).with_duty(True), TWO)
        self.assertIs(TWO.duty, True)


class Wrong(Case):
    def test_loose(self):
        for value in WRONG_LISTS + [[], ()]:
            self.refuses(InvalidLoose, {"position": None}, Scene, STORE, value, None, None, None)
        for value in wrong_values() + [(0, "a", 3), list(TIE), (0, "g", 1), (True, "b", 2)]:
            self.refuses(InvalidLoose, {"position": 1}, Scene, STORE, [TIE, value], None, None, None)
        self.refuses(InvalidLoose, {"position": 2}, Scene, STORE, [TIE, OTHER, TIE], None)

    def test_bodies(self):
        for value in wrong_values() + [{"cut": []}, {"cut": BODY + BODY}, {"cut": None}, {"cut": BODY[0]}, {"cut": "put"},
                                       {"": BODY}, {"cutcutcut": BODY}, {"Cut": BODY}, {"cut1": BODY}, {1: BODY},
                                       {None: BODY}, {"cut": BODY, 0: BODY}, {("cut",): BODY}, [("cut", BODY)],
                                       {name: BODY for name in "abcde"}, {"cut": {0: BODY[0]}}]:
            self.refuses(InvalidBodies, {"value": value}, Scene, STORE, [TIE], value, None, None)
        for value in WRONG_CHANGES:
            bodies = {"cut": [BODY[0], value]}
            self.refuses(InvalidBodies, {"value": bodies}, Scene, STORE, [TIE], bodies, None, None)
        Scene(STORE, [TIE], {name: BODY + BODY[:1] for name in ("a", "b", "zzzzzzzz", "x")})

    def test_powers(self):
        for value in WRONG_LISTS:
            self.refuses(InvalidPowers, {"position": None}, Scene, STORE, [TIE], {"cut": BODY}, value, None)
        wrong = wrong_values() + [
            ("stop", "cut", 3), ("stop", "cut", -1), ("stop", "cut", True), ("stop", "cat", 0), ("stop", None, 0),
            ("stop", "cut"), ("stop", "cut", 0, 0), ["stop", "cut", 0], ("halt", "cut", 0), ("stop", ["cut"], 0),
            ("door", "cut", 0), ("door", "cut", 0, "cat"), ("door", "cut", 3, "cut"), ("door", "cut", 0, None),
            ("door", "cut", 0, ["cut"]), ("change", "cut", 0), ("change", "cut", 0, OTHER), ("change", "cut", 3, BODY[0]),
            ("change", "cut", False, BODY[0]), (None, "cut", 0), ("next", "cut", 0), ("door", 0, 0, "cut"),
            ("stop", "cut", "0"), ("stop", "cut", None), ("stop", "cut", 0, BODY[0]), ("next", "cut", 0, BODY[0]),
            ("door", "cut", 0, BODY[0]), (Same(), "cut", 0), (Same(), "cut", 0, "cut"), ("stop", Same(), 0),
            ("change", "cut", 0, BODY[0], 0), ("stop",), ()]
        for value in wrong + [("change", "cut", 0, change) for change in WRONG_CHANGES]:
            self.refuses(InvalidPowers, {"position": 1}, Scene, STORE, [TIE], {"cut": BODY}, [STOP, value], None)
        self.refuses(InvalidPowers, {"position": 1}, Scene, STORE, [TIE], {"cut": BODY}, [STOP, STOP])
        self.refuses(InvalidPowers, {"position": 9}, Scene, STORE, [TIE], {"cut": BODY}, nine_powers() + [None])
        good = [("stop", "cut", 2), ("door", "cut", 0, "cut"), ("change", "cut", 2, BODY[0]), ("change", "cut", 2, BODY[1])]
        self.assertEqual(Scene(STORE, [TIE], {"cut": BODY}, good).powers(), sorted(good))

    def test_rules(self):
        for value in WRONG_LISTS:
            self.refuses(InvalidRules, {"position": None}, Scene, STORE, [TIE], {"cut": BODY}, [], value)
        for value in wrong_values() + [("abcd", "a"), ["a", "b"], ("a", "g"), ("", "a")]:
            self.refuses(InvalidRules, {"position": 1}, Scene, STORE, [TIE], {"cut": BODY}, nine_powers(), [("a", "b"), value])
        self.refuses(InvalidRules, {"position": 5}, Scene, STORE, [TIE], {"cut": BODY}, [], FIVE_RULES + FIVE_RULES)

    def test_too_many(self):
        full = Store(20, [(x, "f", y) for x in range(20) for y in range(20)])
        loose = SEVEN
        body = {"cut": [("put", SEVEN[0])]}
        nine = [("change", "cut", 0, (kind, tie)) for kind in ("put", "strike") for tie in SEVEN][:9]
        self.too_many("ties", 400, Scene, full, loose, body, nine, FIVE_RULES)
        self.too_many("loose", 6, Scene, STORE, loose, body, nine, FIVE_RULES)
        self.too_many("powers", 8, Scene, STORE, loose[:6], body, nine[:6] + nine[7:] + [("stop", "cut", 0)], FIVE_RULES)
        self.too_many("rules", 4, Scene, STORE, loose[:6], body, nine[:6] + [("stop", "cut", 0), ("stop", "cut", 1)], FIVE_RULES)
        Scene(STORE, loose[:6], body, nine[:6] + [("stop", "cut", 0), ("stop", "cut", 1)], FIVE_RULES[:4])
        # Loose ties that stand in the store count once.
        some = full.ties()[:3]
        body = {"cut": [("strike", some[0])]}
        Scene(full, some, body)
        self.too_many("ties", 400, Scene, full, some + [(0, "a", 0)], body)
        Scene(full - (5, "f", 5), some + [(0, "a", 0)], body)
        self.refuses(InvalidRules, {"position": None}, Scene, full, SEVEN, {"cut": [("put", SEVEN[0])]}, nine_powers()[:0], None)

    def test_too_many_is_a_limit(self):
        with self.assertRaises(ArithmeticError):
            Scene(STORE, SEVEN, {"cut": [("put", SEVEN[0])]})


class Signs(Case):
    def test_less_and_more(self):
        self.assertEqual((TWO - [STOP]).powers(), TWO.powers()[:2])
        self.assertEqual((TWO - (STOP, ("stop", "cut", 0))).powers(), TWO.powers()[:2])
        self.assertEqual(TWO - [], TWO)
        self.assertEqual(TWO + (), TWO)
        self.assertEqual(TWO + [STOP], TWO)
        more = TWO + [("stop", "cut", 0), STOP]
        self.assertEqual(more.powers(), TWO.powers()[:2] + [("stop", "cut", 0), STOP])
        self.assertEqual((more.store, more.duty, more.rules(), more.body("cut")), (STORE, True, [("ab", "a")], BODY))
        self.assertEqual(more - [("stop", "cut", 0)], TWO)
        self.assertEqual(len(TWO.powers()), 3)

    def test_wrong_powers(self):
        for call in (lambda value: SCENE - value, lambda value: SCENE + value):
            for value in WRONG_LISTS:
                self.refuses(InvalidPowers, {"position": None}, call, value)
            for value in wrong_values() + [("stop", "cut", 3), ("stop", "add", 0), ("change", "cut", 0, ("put", OTHER))]:
                self.refuses(InvalidPowers, {"position": 1}, call, [("stop", "cut", 0), value])
            self.refuses(InvalidPowers, {"position": 2}, call, (STOP, ("stop", "cut", 0), STOP))
            self.refuses(InvalidPowers, {"position": 9}, call, nine_powers() + [STOP])

    def test_too_many(self):
        self.too_many("powers", 8, lambda: SCENE + nine_powers())
        eight = SCENE + nine_powers()[:7]
        self.assertEqual(len(eight.powers()), 8)
        self.too_many("powers", 8, lambda: eight + [("door", "cut", 0, "cut")])
        self.assertEqual(eight + [STOP], eight)
        self.assertEqual((eight - nine_powers()).powers(), [])


class States(Case):
    def test_changed(self):
        self.assertEqual(changed(TWO, (0, 1), ("put", OTHER)), (1, 1))
        self.assertEqual(changed(TWO, (0, 1), ("put", TIE)), (0, 1))
        self.assertEqual(changed(scene=TWO, state=(1, 1), change=("strike", TIE)), (1, 0))
        self.assertEqual(changed(TWO, (1, 0), ("strike", TIE)), (1, 0))
        for value in WRONG_CHANGES:
            self.refuses(InvalidChange, {"value": value}, changed, SCENE, (1,), value)
            self.refuses(InvalidState, {"value": value}, changed, SCENE, value, None)

    def test_wanted_and_the_duty(self):
        # a leads from 0 to 2 as soon as ab does.
        self.assertEqual(wanted(TWO, (0, 1)), [OTHER])
        self.assertEqual(wanted(scene=TWO, state=(0, 0)), [])
        self.assertEqual(wanted(TWO.with_duty(False), (0, 1)), [OTHER])
        self.assertEqual(duty_way(scene=TWO, state=(0, 1)), [(1, 1)])
        self.assertEqual(duty_way(TWO.with_duty(False), (0, 1)), [])
        self.assertEqual(duty_way(TWO, (1, 1)), [])
        self.assertEqual((rest_of(scene=TWO, state=(0, 1)), rest_of(TWO.with_duty(False), (0, 1))), ((1, 1), (0, 1)))
        for call in (wanted, duty_way, rest_of):
            for value in wrong_values() + [(0,), (0, 1, 1), [0, 1], (True, 0), (0, 2)]:
                self.refuses(InvalidState, {"value": value}, call, TWO, value)

    def test_the_first_wanted_tie_and_one_behind_another(self):
        loose = [(0, "b", 1), (0, "c", 1), (0, "d", 1), (0, "e", 1)]
        scene = Scene(Store(2, [(0, "a", 1)]), loose, {"go": [("strike", loose[0])]}, [],
                      [("a", "d"), ("d", "b"), ("b", "c"), ("c", "f")], True)
        self.assertEqual(wanted(scene, (0, 0, 0, 0)), [(0, "d", 1)])
        self.assertEqual(duty_way(scene, (0, 0, 0, 0)), [(0, 0, 1, 0), (1, 0, 1, 0), (1, 1, 1, 0)])
        self.assertEqual(duty_way(scene, (1, 0, 0, 0)), [(1, 1, 0, 0), (1, 1, 1, 0)])
        # The first state is at rest, whatever rules want there.
        self.assertEqual(scene.first_state, (0, 0, 0, 0))

    def test_against_walks(self):
        rng = random.Random(131)
        for _ in range(120):
            scene = some_scene(rng)
            for state in all_states(scene):
                self.assertEqual(wanted(scene, state), slow_wanted(scene, state))
                self.assertEqual(duty_way(scene, state), slow_way(scene, state))
                self.assertEqual(rest_of(scene, state), ([state] + slow_way(scene, state))[-1])
                for tie in scene.loose():
                    for kind in ("put", "strike"):
                        self.assertEqual(changed(scene, state, (kind, tie)), slow_turned(scene, state, (kind, tie)))


class Outcomes(Case):
    def test_ordinary(self):
        self.assertEqual(outcomes(SCENE, "cut", (1,)), [(0,), (1,)])
        self.assertEqual(outcomes(scene=SCENE - [STOP], deed="cut", state=(0,)), [(1,)])
        # The duty is no part of the body.
        self.assertEqual(outcomes(TWO, "cut", (0, 1)), [(0, 0), (0, 1)])
        self.assertEqual(outcomes(TWO, "add", (0, 1)), [(1, 0), (1, 1)])

    def test_doors_to_the_same_deed(self):
        plain = Scene(STORE, [TIE, OTHER], {"go": [("put", OTHER), ("strike", TIE)]}, [("door", "go", 1, "go")])
        self.assertEqual(outcomes(plain, "go", (0, 1)), [(1, 0)])
        more = plain + [("change", "go", 1, ("strike", OTHER)), ("stop", "go", 0)]
        self.assertEqual(outcomes(more, "go", (0, 1)), [(0, 0), (0, 1), (1, 0)])
        self.assertEqual(outcomes(more - [("stop", "go", 0)], "go", (0, 1)), [(0, 0), (1, 0)])

    def test_a_door_to_a_deed_that_comes_back_to_the_first_one(self):
        ties = [(0, letter, 0) for letter in "abcdef"]
        bodies = {"p": [("put", ties[0])], "q": [("put", ties[1])], "r": [("put", ties[2])]}
        doors = [("door", "p", 0, "q"), ("door", "q", 0, "r"), ("door", "r", 1, "p")]
        scene = Scene(Store(1), ties, bodies, doors + [("change", "p", 0, ("put", ties[5]))])
        self.assertEqual(outcomes(scene, "p", (0,) * 6), [(1, 0, 0, 0, 0, 0), (1, 0, 0, 0, 0, 1), (1, 1, 0, 0, 0, 0),
                                                          (1, 1, 0, 0, 0, 1), (1, 1, 1, 0, 0, 0), (1, 1, 1, 0, 0, 1)])

    def test_against_growing(self):
        rng = random.Random(132)
        for _ in range(200):
            scene = some_scene(rng, powers=8, deeds=4)
            grown = Grown(scene)
            for deed in scene.deeds():
                for state in all_states(scene):
                    self.assertEqual(outcomes(scene, deed, state), sorted(grown.over[deed, state]))

    def test_errors_in_sequence(self):
        for value in wrong_values() + ["cuts", STOP]:
            self.refuses(UnknownDeed, {"value": value}, outcomes, SCENE, value, None)
        for value in wrong_values() + [(0, 1), [1], (True,)]:
            self.refuses(InvalidState, {"value": value}, outcomes, SCENE, "cut", value)

    def test_at_the_limits(self):
        scene = great_scene([("aa", "a"), ("a", "b"), ("b", "a"), ("ab", "a")])
        grown = Grown(scene)
        for deed in scene.deeds():
            for state in all_states(scene)[::7]:
                self.assertEqual(outcomes(scene, deed, state), sorted(grown.over[deed, state]))


if __name__ == "__main__":
    unittest.main()
