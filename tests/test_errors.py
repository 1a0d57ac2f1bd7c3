"""The errors: their families, their attributes, and that they can be made with any values."""

import re
import unittest

from netkeep import errors, faults
from support import Odd

ERRORS = {
    ValueError: "NetError",
    LookupError: "MissingError",
    RuntimeError: "StateError",
    ArithmeticError: "LimitError",
}
NET = """InvalidNodes(value) InvalidTies(position) InvalidTie(value) InvalidNode(value) InvalidLetter(value)
InvalidWord(value) InvalidWords(position) InvalidTelling(value) InvalidRelation(value) InvalidMatrix(value)
InvalidOrder(value) InvalidStore(value) InvalidStandings(value) InvalidSteps(position) InvalidEnds(position)
InvalidSigns(value) InvalidRules(position) InvalidRule(value) InvalidNumber(value) InvalidLot(value)
InvalidPlace(value) InvalidPlaces(position) InvalidKept(value) InvalidCut(value) InvalidPrices(value)
InvalidSecrets(position) InvalidQuestions(position) InvalidLetters(value) InvalidWish(value)"""
MISSING = "UnknownWord(value)"
STATE = "OtherNodes(one,other) Settled(value) NotSettled(value) NoMatrices() NotKeptUp(value)"
LIMIT = "TooMany(what,limit)"
FAULT_NET = """InvalidLoose(position) InvalidBodies(value) InvalidPowers(position) InvalidState(value)
InvalidChange(value) InvalidVow(value) InvalidLooks(value) InvalidPlay(value) InvalidPrograms(position)
InvalidWeaving(value) InvalidJoints(position) InvalidTable(position) InvalidMarks(position) InvalidDeeds(position)
InvalidKind(value) InvalidSaying(value) InvalidLines(position) InvalidFares(value) InvalidText(line)
InvalidCommand(value) InvalidEntries(position) InvalidEntry(value)"""
FAULT_MISSING = "UnknownDeed(value) UnknownSpot(value) UnknownReader(value)"
FAULT_STATE = """TooFewNodes(one,other) HasBack(position) NotKept(value) GivenAway(value) NotGranted(value)
NothingToUndo() NothingToRedo() CommandFailed(position)"""
LISTS = [
    (errors, errors.NetError, NET),
    (errors, errors.MissingError, MISSING),
    (errors, errors.StateError, STATE),
    (errors, errors.LimitError, LIMIT),
    (faults, errors.NetError, FAULT_NET),
    (faults, errors.MissingError, FAULT_MISSING),
    (faults, errors.StateError, FAULT_STATE),
]


def told():
    """Each error class with its module, its family and its attributes."""
    for module, family, text in LISTS:
        for name, names in re.findall(r"(\w+)\(([^)]*)\)", text):
            yield getattr(module, name), module, family, [part for part in names.split(",") if part]


class Errors(unittest.TestCase):
    def test_families(self):
        for base, name in ERRORS.items():
            self.assertEqual(getattr(errors, name).__bases__, (base,))
            self.assertIsInstance(getattr(errors, name)(), base)

    def test_each_class_is_of_just_its_family(self):
        for cls, module, family, _ in told():
            self.assertEqual(cls.__bases__, (family,), cls)
            self.assertEqual(cls.__module__, module.__name__)

    def test_how_many(self):
        self.assertEqual(len(list(told())), 29 + 1 + 5 + 1 + 22 + 3 + 8)
        for module in (errors, faults):
            own = [name for name, value in vars(module).items()
                   if isinstance(value, type) and value.__module__ == module.__name__]
            names = [cls.__name__ for cls, where, _, _ in told() if where is module]
            families = list(ERRORS.values()) if module is errors else []
            self.assertEqual(sorted(own), sorted(names + families))

    def test_any_values_by_position_and_by_name(self):
        for value in (None, True, 0, -5, "", "x", (), [], {}, {1: []}, Odd(), ValueError("x"), b"a"):
            for cls, _, _, names in told():
                values = [value for _ in names]
                for error in (cls(*values), cls(**dict(zip(names, values)))):
                    for name in names:
                        self.assertIs(getattr(error, name), value)

    def test_two_attributes_are_not_mixed_up(self):
        for cls, _, _, names in told():
            values = [Odd() for _ in names]
            error = cls(*values)
            self.assertEqual([getattr(error, name) for name in names], values)

    def test_raised_and_caught_by_family(self):
        for cls, _, family, names in told():
            with self.assertRaises(family):
                raise cls(*[0 for _ in names])

    def test_wrong_numbers_of_values(self):
        for cls, _, _, names in told():
            with self.assertRaises(TypeError):
                cls(*[0 for _ in names], 0, other_name=1)
            if names:
                with self.assertRaises(TypeError):
                    cls()


if __name__ == "__main__":
    unittest.main()
