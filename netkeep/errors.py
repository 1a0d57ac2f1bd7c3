"""The errors of all stages, and the families of errors."""


class NetError(ValueError):
    """A value that cannot be what it is passed as."""


class InvalidNodes(NetError):
    def __init__(self, value):
        self.value = value


class InvalidTies(NetError):
    def __init__(self, position):
        self.position = position


class InvalidTie(NetError):
    def __init__(self, value):
        self.value = value


class InvalidNode(NetError):
    def __init__(self, value):
        self.value = value


class InvalidLetter(NetError):
    def __init__(self, value):
        self.value = value


class InvalidWord(NetError):
    def __init__(self, value):
        self.value = value


class InvalidWords(NetError):
    def __init__(self, position):
        self.position = position


class InvalidTelling(NetError):
    def __init__(self, value):
        self.value = value


class InvalidRelation(NetError):
    def __init__(self, value):
        self.value = value


class InvalidMatrix(NetError):
    def __init__(self, value):
        self.value = value


class InvalidOrder(NetError):
    def __init__(self, value):
        self.value = value


class InvalidStore(NetError):
    def __init__(self, value):
        self.value = value


class InvalidStandings(NetError):
    def __init__(self, value):
        self.value = value


class InvalidSteps(NetError):
    def __init__(self, position):
        self.position = position


class InvalidEnds(NetError):
    def __init__(self, position):
        self.position = position


class InvalidSigns(NetError):
    def __init__(self, value):
        self.value = value


class InvalidRules(NetError):
    def __init__(self, position):
        self.position = position


class InvalidRule(NetError):
    def __init__(self, value):
        self.value = value


class InvalidNumber(NetError):
    def __init__(self, value):
        self.value = value


class InvalidLot(NetError):
    def __init__(self, value):
        self.value = value


class InvalidPlace(NetError):
    def __init__(self, value):
        self.value = value


class InvalidPlaces(NetError):
    def __init__(self, position):
        self.position = position


class InvalidKept(NetError):
    def __init__(self, value):
        self.value = value


class InvalidCut(NetError):
    def __init__(self, value):
        self.value = value


class InvalidPrices(NetError):
    def __init__(self, value):
        self.value = value


class InvalidSecrets(NetError):
    def __init__(self, position):
        self.position = position


class InvalidQuestions(NetError):
    def __init__(self, position):
        self.position = position


class InvalidLetters(NetError):
    def __init__(self, value):
        self.value = value


class InvalidWish(NetError):
    def __init__(self, value):
        self.value = value


class MissingError(LookupError):
    """A value that is not there."""


class UnknownWord(MissingError):
    def __init__(self, value):
        self.value = value


class StateError(RuntimeError):
    """Values that are valid but do not go together."""


class OtherNodes(StateError):
    def __init__(self, one, other):
        self.one = one
        self.other = other


class Settled(StateError):
    def __init__(self, value):
        self.value = value


class NotSettled(StateError):
    def __init__(self, value):
        self.value = value


class NoMatrices(StateError):
    """No count paper tells one matrix of counts."""


class NotKeptUp(StateError):
    def __init__(self, value):
        self.value = value


class LimitError(ArithmeticError):
    """More than a limit allows."""


class TooMany(LimitError):
    def __init__(self, what, limit):
        self.what = what
        self.limit = limit
