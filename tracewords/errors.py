"""The errors of the package: each holds what its constructor is passed."""


class TableError(ValueError):
    """A value is not what it must be."""


class InvalidHouse(TableError):
    def __init__(self, value):
        self.value = value


class InvalidMany(TableError):
    def __init__(self, value):
        self.value = value


class InvalidNumber(TableError):
    def __init__(self, value):
        self.value = value


class InvalidRoom(TableError):
    def __init__(self, value):
        self.value = value


class InvalidRow(TableError):
    def __init__(self, value):
        self.value = value


class InvalidRows(TableError):
    def __init__(self, value):
        self.value = value


class InvalidTable(TableError):
    def __init__(self, value):
        self.value = value


class InvalidWord(TableError):
    def __init__(self, value):
        self.value = value


class DividedByZero(TableError):
    def __init__(self):
        pass


class InvalidClaim(TableError):
    def __init__(self, value):
        self.value = value


class InvalidCommand(TableError):
    def __init__(self, value):
        self.value = value


class InvalidEnds(TableError):
    def __init__(self, value):
        self.value = value


class InvalidFive(TableError):
    def __init__(self, value):
        self.value = value


class InvalidGoals(TableError):
    def __init__(self, value):
        self.value = value


class InvalidLetters(TableError):
    def __init__(self, value):
        self.value = value


class InvalidLines(TableError):
    def __init__(self, position):
        self.position = position


class InvalidMachine(TableError):
    def __init__(self, value):
        self.value = value


class InvalidMixture(TableError):
    def __init__(self, value):
        self.value = value


class InvalidPaper(TableError):
    def __init__(self, value):
        self.value = value


class InvalidPlace(TableError):
    def __init__(self, value):
        self.value = value


class InvalidSize(TableError):
    def __init__(self, value):
        self.value = value


class InvalidSort(TableError):
    def __init__(self, value):
        self.value = value


class InvalidStart(TableError):
    def __init__(self, value):
        self.value = value


class InvalidTables(TableError):
    def __init__(self, value):
        self.value = value


class InvalidText(TableError):
    def __init__(self, line):
        self.line = line


class InvalidValue(TableError):
    def __init__(self, value):
        self.value = value


class MissingError(LookupError):
    """Nothing is kept under a name or a label."""


class UnknownLabel(MissingError):
    def __init__(self, value):
        self.value = value


class UnknownName(MissingError):
    def __init__(self, value):
        self.value = value


class StateError(RuntimeError):
    """Values are valid, but do not go together or do not allow this."""


class UnlikeSizes(StateError):
    def __init__(self):
        pass


class CommandFailed(StateError):
    def __init__(self, position):
        self.position = position


class LabelTaken(StateError):
    def __init__(self, label):
        self.label = label


class NameTaken(StateError):
    def __init__(self, name):
        self.name = name


class NoneThere(StateError):
    def __init__(self):
        pass


class NotCommuting(StateError):
    def __init__(self):
        pass


class NotParted(StateError):
    def __init__(self):
        pass


class NotTwo(StateError):
    def __init__(self):
        pass


class NotUndone(StateError):
    def __init__(self):
        pass


class NothingToRedo(StateError):
    def __init__(self):
        pass


class NothingToUndo(StateError):
    def __init__(self):
        pass


class NoughtRoom(StateError):
    def __init__(self):
        pass


class UnlikeLetters(StateError):
    def __init__(self):
        pass


class WholeRoom(StateError):
    def __init__(self):
        pass


class LimitError(ArithmeticError):
    """Something would be more than the program allows."""


class TooMany(LimitError):
    def __init__(self, what, limit):
        self.what = what
        self.limit = limit
