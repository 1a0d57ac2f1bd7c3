"""The errors of stages 6 to 9, of the families in netkeep.errors."""

from netkeep.errors import MissingError, NetError, StateError


class InvalidLoose(NetError):
    def __init__(self, position):
        self.position = position


class InvalidBodies(NetError):
    def __init__(self, value):
        self.value = value


class InvalidPowers(NetError):
    def __init__(self, position):
        self.position = position


class InvalidState(NetError):
    def __init__(self, value):
        self.value = value


class InvalidChange(NetError):
    def __init__(self, value):
        self.value = value


class InvalidVow(NetError):
    def __init__(self, value):
        self.value = value


class InvalidLooks(NetError):
    def __init__(self, value):
        self.value = value


class InvalidPlay(NetError):
    def __init__(self, value):
        self.value = value


class InvalidPrograms(NetError):
    def __init__(self, position):
        self.position = position


class InvalidWeaving(NetError):
    def __init__(self, value):
        self.value = value


class InvalidJoints(NetError):
    def __init__(self, position):
        self.position = position


class InvalidTable(NetError):
    def __init__(self, position):
        self.position = position


class InvalidMarks(NetError):
    def __init__(self, position):
        self.position = position


class InvalidDeeds(NetError):
    def __init__(self, position):
        self.position = position


class InvalidKind(NetError):
    def __init__(self, value):
        self.value = value


class InvalidSaying(NetError):
    def __init__(self, value):
        self.value = value


class InvalidLines(NetError):
    def __init__(self, position):
        self.position = position


class InvalidFares(NetError):
    def __init__(self, value):
        self.value = value


class InvalidText(NetError):
    def __init__(self, line):
        self.line = line


class InvalidCommand(NetError):
    def __init__(self, value):
        self.value = value


class InvalidEntries(NetError):
    def __init__(self, position):
        self.position = position


class InvalidEntry(NetError):
    def __init__(self, value):
        self.value = value


class UnknownDeed(MissingError):
    def __init__(self, value):
        self.value = value


class UnknownSpot(MissingError):
    def __init__(self, value):
        self.value = value


class UnknownReader(MissingError):
    def __init__(self, value):
        self.value = value


class TooFewNodes(StateError):
    def __init__(self, one, other):
        self.one = one
        self.other = other


class HasBack(StateError):
    def __init__(self, position):
        self.position = position


class NotKept(StateError):
    def __init__(self, value):
        self.value = value


class GivenAway(StateError):
    def __init__(self, value):
        self.value = value


class NotGranted(StateError):
    def __init__(self, value):
        self.value = value


class NothingToUndo(StateError):
    """No change is left that could be taken back."""


class NothingToRedo(StateError):
    """No change is left that could be done again."""


class CommandFailed(StateError):
    def __init__(self, position):
        self.position = position
