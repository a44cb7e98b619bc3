"""The errors of the package: each one keeps the very objects that it is created with.

Those whose names begin with Invalid keep what is wrong as `given`.
"""


class SumError(ValueError):
    """Every error of the package is one of these."""


class InvalidNumber(SumError):
    def __init__(self, given):
        self.given = given


class InvalidPrime(SumError):
    def __init__(self, given):
        self.given = given


class InvalidData(SumError):
    def __init__(self, given):
        self.given = given


class InvalidPlace(SumError):
    def __init__(self, given):
        self.given = given


class InvalidPoints(SumError):
    def __init__(self, given):
        self.given = given


class InvalidLength(SumError):
    def __init__(self, given):
        self.given = given


class InvalidSymbols(SumError):
    def __init__(self, given):
        self.given = given


class InvalidDisks(SumError):
    def __init__(self, given):
        self.given = given


class InvalidLost(SumError):
    def __init__(self, given):
        self.given = given


class InvalidRecords(SumError):
    def __init__(self, given):
        self.given = given


class InvalidChanges(SumError):
    def __init__(self, given):
        self.given = given


class InvalidContents(SumError):
    def __init__(self, given):
        self.given = given


class InvalidLot(SumError):
    def __init__(self, given):
        self.given = given


class InvalidHeads(SumError):
    def __init__(self, given):
        self.given = given


class InvalidDisk(SumError):
    def __init__(self, given):
        self.given = given


class InvalidBlock(SumError):
    def __init__(self, given):
        self.given = given


class InvalidContent(SumError):
    def __init__(self, given):
        self.given = given


class InvalidLeft(SumError):
    def __init__(self, given):
        self.given = given


class InvalidView(SumError):
    def __init__(self, given):
        self.given = given


class InvalidTold(SumError):
    def __init__(self, given):
        self.given = given


class InvalidWish(SumError):
    def __init__(self, given):
        self.given = given


class InvalidEvents(SumError):
    def __init__(self, given):
        self.given = given


class InvalidKind(SumError):
    def __init__(self, given):
        self.given = given


class InvalidPending(SumError):
    def __init__(self, given):
        self.given = given


class InvalidValue(SumError):
    def __init__(self, given):
        self.given = given


class InvalidBlocks(SumError):
    def __init__(self, given):
        self.given = given


class InvalidEntries(SumError):
    def __init__(self, given):
        self.given = given


class InvalidRests(SumError):
    def __init__(self, given):
        self.given = given


class InvalidPaths(SumError):
    def __init__(self, given):
        self.given = given


class InvalidGroups(SumError):
    def __init__(self, given):
        self.given = given


class InvalidNames(SumError):
    def __init__(self, given):
        self.given = given


class InvalidText(SumError):
    def __init__(self, given):
        self.given = given


class TooMany(SumError):
    def __init__(self, count):
        self.count = count


class TooFew(SumError):
    def __init__(self, count):
        self.count = count


class NoWord(SumError):
    def __init__(self, points):
        self.points = points


class NoHeads(SumError):
    def __init__(self, lots):
        self.lots = lots


class TooManyLost(SumError):
    def __init__(self, count):
        self.count = count


class NotLost(SumError):
    def __init__(self, disk):
        self.disk = disk


class IsLost(SumError):
    def __init__(self, disk):
        self.disk = disk


class NotLeft(SumError):
    def __init__(self, item):
        self.item = item


class NotOpen(SumError):
    """The store is opening, or a head is not 0."""


class Busy(SumError):
    def __init__(self, work):
        self.work = work


class NoWork(SumError):
    """There is no work of which a step could be done."""


class Broken(SumError):
    def __init__(self, value):
        self.value = value


class BadLine(SumError):
    def __init__(self, at):
        self.at = at


class NothingToUndo(SumError):
    """No line is left that could be undone."""


class NothingToRedo(SumError):
    """No undone line is left that could be done again."""
