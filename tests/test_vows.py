"""Points [64] and [65], and netkeep/vows.py: vows, records and the states that are seen."""

import random
import unittest

from netkeep.faults import InvalidLooks, InvalidState, InvalidVow
from netkeep.parts import Scene
from netkeep.store import Store
from netkeep.vows import holds, is_kept, is_record, record, seen, shows
from scenes import Grown, all_states, great_scene, slow_holds, slow_turned, slow_way, some_scene, some_vow
from support import Case, Odd, Same, otherwise, wrong_values

TIE = (1, "b", 2)
STORE = Store(3, [(0, "a", 1), TIE])
STOP = ("stop", "cut", 1)
SCENE = Scene(STORE, [TIE], {"cut": [("strike", TIE), ("put", TIE)]}, [STOP])
VOW = [("ab", (0, 2), True)]
WRONG_LOOKS = wrong_values() + ["All", "rests", ["all"], ("rest",)]
WRONG_VOWS = wrong_values() + [[("ab", (0, 2), 1)], [("ab", (0, 2), None)], [("ab", (0, 3), True)], [("ab", [0, 2], True)],
                               [("ab", (0, True), True)], [("", (0, 2), True)], [("aB", (0, 2), True)], [("ab", (0, 2))],
                               [["ab", (0, 2), True]], [("ab", (0, 2), True), None], {VOW[0]: 1}, VOW[0],
                               [("a" * 13, (0, 2), True)], [("ab", (0, 2), True, True)], [(None, (0, 2), True)]]


def slow_is_record(scene, value):
    """Whether a value is a closed record, and the states that it sees; None if it is none."""
    many, deeds = len(scene.loose()), scene.deeds()

    def is_state(state):
        return type(state) is tuple and len(state) == many and all(type(one) is int and one in (0, 1) for one in state)

    def are_states(states):
        return type(states) in (list, tuple) and all(is_state(state) for state in states)

    if type(value) is not tuple or len(value) != 2 or type(value[0]) is not dict or not are_states(value[1]):
        return None
    ends, rests = value
    for key in ends:
        if type(key) is not tuple or len(key) != 2 or type(key[0]) is not str or key[0] not in deeds or not is_state(key[1]):
            return None
        if not are_states(ends[key]):
            return None
    if scene.first_state not in rests or any((deed, state) not in ends for deed in deeds for state in rests):
        return None
    sees = set(rests)
    for deed, begun in ends:
        body, there, queue = scene.body(deed), {(0, begun)}, [(0, begun)]
        while queue:
            place, state = queue.pop()
            further = [(place + 1, slow_turned(scene, state, body[place]))] if place < len(body) else []
            further += [(place, slow_turned(scene, state, power[3])) for power in scene.powers()
                        if power[:3] == ("change", deed, place)]
            sees |= {one for _, one in further}
            for power in scene.powers():
                if power[:3] == ("door", deed, place):
                    if (power[3], state) not in ends:
                        return None
                    further += [(place, one) for one in ends[power[3], state]]
            if (place == len(body) or ("stop", deed, place) in scene.powers()) and state not in ends[deed, begun]:
                return None
            queue += [one for one in further if one not in there]
            there |= set(further)
        if begun in rests:
            for state in ends[deed, begun]:
                if ([state] + slow_way(scene, state))[-1] not in rests:
                    return None
                sees |= set(slow_way(scene, state))
    return sees


class Holds(Case):
    def test_ordinary(self):
        self.is_bool(True, holds(SCENE, (1,), VOW))
        self.is_bool(False, holds(scene=SCENE, state=(0,), vow=VOW))
        self.is_bool(True, holds(SCENE, (0,), (("ab", (0, 2), False), ("a", (0, 1), True), ("ab", (2, 0), False))))
        self.is_bool(False, holds(SCENE, (0,), [("ab", (0, 2), False), ("a", (0, 1), False)]))
        self.is_bool(True, holds(SCENE, (1,), VOW + VOW))

    def test_both_ways_never_holds(self):
        both = [("ab", (0, 2), True), ("ab", (0, 2), False)]
        for state in ((0,), (1,)):
            self.is_bool(False, holds(SCENE, state, both))
            self.is_bool(False, holds(SCENE, state, both[::-1]))
        self.is_bool(False, is_kept(SCENE, both, "rest"))

    def test_against_walks(self):
        rng = random.Random(141)
        for _ in range(150):
            scene = some_scene(rng)
            vow = some_vow(rng, scene)
            for state in all_states(scene):
                self.is_bool(slow_holds(scene, state, vow), holds(scene, state, vow))

    def test_errors_in_sequence(self):
        for value in wrong_values() + [(0, 1), (True,), [1]]:
            self.refuses(InvalidState, {"value": value}, holds, SCENE, value, None)
        for value in WRONG_VOWS:
            self.refuses(InvalidVow, {"value": value}, holds, SCENE, (1,), value)
            self.refuses(InvalidVow, {"value": value}, is_kept, SCENE, value, None)
            self.refuses(InvalidVow, {"value": value}, shows, SCENE, None, value, None)
        for value in WRONG_LOOKS:
            self.refuses(InvalidLooks, {"value": value}, is_kept, SCENE, VOW, value)
            self.refuses(InvalidLooks, {"value": value}, shows, SCENE, None, VOW, value)
            self.refuses(InvalidLooks, {"value": value}, seen, SCENE, value)


class Kept(Case):
    def test_ordinary(self):
        self.is_bool(False, is_kept(SCENE, VOW))
        self.is_bool(False, is_kept(scene=SCENE, vow=VOW, looks="rest"))
        self.is_bool(True, is_kept(SCENE - [STOP], VOW, "rest"))
        self.is_bool(False, is_kept(SCENE - [STOP], VOW, "all"))
        self.assertEqual(seen(SCENE), [(0,), (1,)])
        self.assertEqual(seen(scene=SCENE - [STOP], looks="rest"), [(1,)])
        self.assertEqual(seen(SCENE - [STOP], "all"), [(0,), (1,)])

    def test_the_first_state_is_looked_at(self):
        scene = Scene(STORE - TIE, [TIE], {"add": [("put", TIE)]}, [], [("a", "b")], True)
        self.assertEqual(seen(scene, "rest"), [(0,), (1,)])
        self.is_bool(False, is_kept(scene, VOW, "rest"))

    def test_idle_changes_are_looked_at_with_the_state(self):
        scene = Scene(STORE, [TIE], {"add": [("put", TIE)]})
        self.assertEqual((seen(scene), seen(scene, "rest")), ([(1,)], [(1,)]))
        self.assertEqual(record(scene), ({("add", (1,)): [(1,)]}, [(1,)]))

    def test_the_duty_is_looked_at(self):
        loose = [(0, "b", 1), (0, "c", 1)]
        scene = Scene(Store(2, [(0, "a", 1)] + loose), loose, {"go": [("strike", loose[0]), ("strike", loose[1])]}, [],
                      [("a", "c"), ("c", "b")], True)
        self.assertEqual(seen(scene), [(0, 0), (0, 1), (1, 1)])
        self.assertEqual(seen(scene, "rest"), [(1, 1)])
        self.assertEqual(seen(scene.with_duty(False), "rest"), [(0, 0), (1, 1)])
        self.assertEqual(record(scene), ({("go", (1, 1)): [(0, 0)]}, [(1, 1)]))

    def test_states_that_the_duty_alone_comes_to(self):
        loose = [(0, letter, 1) for letter in "bcd"]
        scene = Scene(Store(2, [(0, "a", 1)] + loose), loose, {"go": [("strike", tie) for tie in loose]}, [],
                      [("a", "b"), ("b", "c"), ("c", "d")], True)
        self.assertEqual(seen(scene), [(0, 0, 0), (0, 0, 1), (0, 1, 1), (1, 0, 0), (1, 1, 0), (1, 1, 1)])
        self.assertEqual(seen(scene.with_duty(False)), [(0, 0, 0), (0, 0, 1), (0, 1, 1), (1, 1, 1)])
        self.assertEqual(seen(scene, "rest"), [(1, 1, 1)])

    def test_against_growing(self):
        rng = random.Random(142)
        kept = {True: 0, False: 0}
        for _ in range(250):
            scene = some_scene(rng, powers=8)
            vow = some_vow(rng, scene)
            grown = Grown(scene)
            told = record(scene)
            self.assertEqual(repr(told), repr(grown.record()))
            for looks in ("all", "rest"):
                looked = grown.looked(looks)
                self.assertEqual(seen(scene, looks), sorted(looked))
                good = all(slow_holds(scene, state, vow) for state in looked)
                kept[good] += 1
                self.is_bool(good, is_kept(scene, vow, looks))
                self.is_bool(good, shows(scene, told, vow, looks))
            self.is_bool(True, is_record(scene, told))
            self.assertEqual(slow_is_record(scene, told), set(grown.looked("all")))
        self.assertGreater(min(kept.values()), 60)


class Records(Case):
    def test_ordinary(self):
        told = record(SCENE)
        self.assertEqual(told, ({("cut", (0,)): [(0,), (1,)], ("cut", (1,)): [(0,), (1,)]}, [(0,), (1,)]))
        self.assertIs(type(record(scene=SCENE)), tuple)
        self.is_bool(True, is_record(scene=SCENE, value=told))
        tuples = ({key: tuple(told[0][key]) for key in told[0]}, tuple(told[1]))
        self.is_bool(True, is_record(SCENE, tuples))
        self.is_bool(False, is_record(SCENE, list(told)))
        self.is_bool(False, is_record(SCENE - [STOP], ({("cut", (1,)): [(1,)]}, [(0,)])))

    def test_wrong_keys_and_states(self):
        ends, rests = record(SCENE)
        for key in wrong_values() + [("cuts", (1,)), (None, (1,)), (0, (1,)), (Same(), (1,)), ("cut", (2,)), ("cut", (True,)),
                                     ("cut", (0, 0)), ("cut", ()), ("cut", 0), ("cut",), ("cut", (1,), 0), "cut"]:
            if not isinstance(key, (list, dict, set, Odd)) and key != ([],):
                self.is_bool(False, is_record(SCENE, ({**ends, key: [(1,)]}, rests)))
                self.is_bool(False, shows(SCENE, ({**ends, key: [(1,)]}, rests), [("a", (0, 1), True)], "rest"))
        for value in wrong_values() + [(2,), (True,), (0, 0), [1], "1", 0]:
            for told in (ends | {("cut", (1,)): [(0,), (1,), value]}, rests), (ends, rests + [value]):
                self.is_bool(False, is_record(SCENE, told))
        self.is_bool(True, is_record(SCENE, (ends, rests + [(1,)])))

    def test_a_stop_ends_the_body(self):
        told = ({("cut", (1,)): [(1,)]}, [(1,)])
        self.is_bool(False, is_record(SCENE, told))
        self.is_bool(True, is_record(SCENE - [STOP], told))

    def test_what_the_duty_comes_to_behind_the_lists_is_seen(self):
        loose = [(0, "b", 1), (0, "c", 1)]
        scene = Scene(Store(2, [(0, "a", 1)] + loose), loose, {"go": [("put", loose[0])]}, [], [("a", "b"), ("b", "c")], True)
        told = ({("go", (1, 1)): [(1, 1), (0, 0)]}, [(1, 1)])
        self.is_bool(True, is_record(scene, told))
        self.is_bool(False, shows(scene, told, [("c", (0, 1), True)]))
        self.is_bool(True, shows(scene, told, [("c", (0, 1), True)], "rest"))
        self.is_bool(True, shows(scene, record(scene), [("c", (0, 1), True)]))
        # Behind a list whose state is not at rest no duty comes.
        self.is_bool(True, shows(scene, ({("go", (1, 1)): [(1, 1)], ("go", (1, 0)): [(1, 0), (0, 0)]}, [(1, 1)]),
                                 [("b", (0, 1), True)]))

    def test_states_told_twice_and_further_keys(self):
        plain = SCENE - [STOP]
        self.assertEqual(record(plain), ({("cut", (1,)): [(1,)]}, [(1,)]))
        self.is_bool(True, is_record(plain, ({("cut", (1,)): [(1,), (1,)]}, [(1,), (1,)])))
        # A further key must be closed as well, and what its body comes to is seen.
        more = ({("cut", (1,)): [(1,)], ("cut", (0,)): [(1,)]}, [(1,)])
        self.is_bool(True, is_record(plain, more))
        self.is_bool(False, is_record(plain, ({("cut", (1,)): [(1,)], ("cut", (0,)): [(0,)]}, [(1,)])))
        self.is_bool(True, is_record(plain, ({("cut", (1,)): [(1,), (0,)], ("cut", (0,)): [(1,)]}, [(1,), (0,)])))
        self.is_bool(False, is_record(plain, ({("cut", (1,)): [(1,), (0,)], ("cut", (0,)): [(1,)]}, [(1,)])))
        # The lists of keys whose state is not at rest may have more, without a state at rest behind it.
        self.is_bool(True, is_record(plain, ({("cut", (1,)): [(1,)], ("cut", (0,)): [(1,), (0,)]}, [(1,)])))

    def test_what_any_record_shows_is_kept(self):
        plain = SCENE - [STOP]
        least, more = record(plain), ({("cut", (1,)): [(1,), (0,)], ("cut", (0,)): [(1,)]}, [(1,), (0,)])
        self.is_bool(True, shows(scene=plain, value=least, vow=VOW, looks="rest"))
        self.is_bool(False, shows(plain, least, VOW))
        self.is_bool(False, shows(plain, more, VOW, "rest"))
        self.is_bool(True, shows(plain, more, [("a", (0, 1), True)]))
        self.is_bool(False, shows(plain, ({}, []), VOW, "rest"))
        self.is_bool(False, shows(plain, None, VOW, "rest"))
        other = Scene(Store(1), [(0, "a", 0), (0, "b", 0)], {"go": [("put", (0, "a", 0))], "no": [("strike", (0, "a", 0))]})
        told, vow = record(other), [("b", (0, 0), False)]
        self.is_bool(True, shows(other, told, vow))
        further = ({**told[0], ("go", (0, 1)): [(1, 1)]}, told[1])
        self.is_bool(True, is_record(other, further))
        self.is_bool(False, shows(other, further, vow))
        self.is_bool(True, shows(other, further, vow, "rest"))

    def test_doors(self):
        ties = [(0, "a", 0), (0, "b", 0)]
        bodies = {"go": [("put", ties[0])], "in": [("put", ties[1])]}
        scene = Scene(Store(1, ties), ties, bodies, [("door", "go", 0, "in"), ("change", "in", 1, ("strike", ties[0]))])
        told = record(scene)
        self.assertEqual(told[0][("go", (1, 1))], [(1, 1)])
        self.assertIn(("in", (0, 1)), told[0])
        less = {key: told[0][key] for key in told[0] if key != ("in", (0, 1))}
        self.is_bool(False, is_record(scene, (less, told[1])))
        # The doors lead to what the record tells, perhaps to more than there is.
        wide = {key: [(0, 0), (0, 1), (1, 0), (1, 1)] for key in ((deed, state) for deed in bodies for state in all_states(scene))}
        self.is_bool(True, is_record(scene, (wide, all_states(scene))))
        narrow = Scene(Store(1, ties), ties, bodies, [("door", "go", 0, "in")])
        told = record(narrow)
        self.assertEqual(told, ({("go", (1, 1)): [(1, 1)], ("in", (1, 1)): [(1, 1)]}, [(1, 1)]))
        more = {("go", (1, 1)): [(1, 1), (1, 0)], ("in", (1, 1)): [(1, 1), (1, 0)]}
        self.is_bool(False, is_record(narrow, (more, [(1, 1), (1, 0)])))
        more.update({("go", (1, 0)): [(1, 1), (1, 0)], ("in", (1, 0)): [(1, 1), (1, 0)]})
        self.is_bool(True, is_record(narrow, (more, [(1, 1), (1, 0)])))
        self.is_bool(False, shows(narrow, (more, [(1, 1), (1, 0)]), [("b", (0, 0), True)]))
        self.is_bool(True, is_kept(narrow, [("b", (0, 0), True)]))

    def test_records_that_are_otherwise(self):
        rng = random.Random(143)
        good, bad = 0, 0
        for _ in range(12):
            scene = some_scene(rng, many_loose=2, powers=4, deeds=2)
            vow = some_vow(rng, scene)
            told = record(scene)
            for value in otherwise(told):
                sees = slow_is_record(scene, value)
                good, bad = good + (sees is not None), bad + (sees is None)
                self.is_bool(sees is not None, is_record(scene, value))
                for looks in ("all", "rest"):
                    looked = [] if sees is None else sees if looks == "all" else value[1]
                    self.is_bool(sees is not None and all(slow_holds(scene, state, vow) for state in looked),
                                 shows(scene, value, vow, looks))
        self.assertGreater(min(good, bad), 60)

    def test_what_is_told_is_new(self):
        told = record(SCENE)
        told[0][("cut", (0,))].clear()
        self.assertEqual(told[0][("cut", (1,))], [(0,), (1,)])
        told[1].clear()
        told[0].clear()
        self.assertEqual(record(SCENE)[1], [(0,), (1,)])
        seen(SCENE).clear()
        self.assertEqual(seen(SCENE), [(0,), (1,)])

    def test_at_the_limits(self):
        for duty in (False, True):
            scene = great_scene([("aa", "a"), ("a", "b"), ("b", "a"), ("ab", "a")], duty)
            grown = Grown(scene)
            told = record(scene)
            self.assertEqual(repr(told), repr(grown.record()))
            self.is_bool(True, is_record(scene, told))
            self.assertEqual(seen(scene), sorted(grown.looked("all")))


if __name__ == "__main__":
    unittest.main()
