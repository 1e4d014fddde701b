"""The errors of the package, one class for each kind of failure.

Messages do not show what was given: a very long number cannot be written out.
"""


class ScanError(ValueError):
    """What the errors about wrong values have in common."""

    def __init__(self, tag, why):
        super().__init__(why)
        self.tag = tag


class InvalidPlace(ScanError):
    def __init__(self, given):
        super().__init__("InvalidPlace", "not a place with a number for each direction")
        self.given = given


class InvalidBox(ScanError):
    def __init__(self, given):
        super().__init__("InvalidBox", "not a box with a side for each direction")
        self.given = given


class InvalidDivisors(ScanError):
    def __init__(self):
        super().__init__("InvalidDivisors", "not fitting divisors, from 1 on for each direction")


class TooManyClasses(ScanError):
    def __init__(self, limit):
        super().__init__("TooManyClasses", "the divisors make too many classes")
        self.limit = limit


class InvalidLooks(ScanError):
    def __init__(self, index):
        super().__init__("InvalidLooks", "not a list of different looks")
        self.index = index


class InvalidTree(ScanError):
    def __init__(self):
        super().__init__("InvalidTree", "not a tree, or too large a one")


class InvalidMatrix(ScanError):
    def __init__(self):
        super().__init__("InvalidMatrix", "not a square matrix with the determinant 1 or -1")


class InvalidWords(ScanError):
    def __init__(self, index):
        super().__init__("InvalidWords", "not a word for each class")
        self.index = index


class Unlike(ScanError):
    def __init__(self):
        super().__init__("Unlike", "the two do not fit together")


class TooManyCells(ScanError):
    def __init__(self, limit):
        super().__init__("TooManyCells", "the box has too many cells")
        self.limit = limit


class InvalidRing(ScanError):
    def __init__(self):
        super().__init__("InvalidRing", "not a ring of the table")


class TooLong(ScanError):
    def __init__(self, limit):
        super().__init__("TooLong", "the ring is too long")
        self.limit = limit


class InvalidRule(ScanError):
    def __init__(self, index):
        super().__init__("InvalidRule", "not a rule for the looks")
        self.index = index


class InvalidValues(ScanError):
    def __init__(self, index):
        super().__init__("InvalidValues", "not a fitting value for each cell")
        self.index = index


class InvalidCount(ScanError):
    def __init__(self, given):
        super().__init__("InvalidCount", "not a fitting count")
        self.given = given


class InvalidName(ScanError):
    def __init__(self, name):
        super().__init__("InvalidName", "not a name of 1 to 8 lowercase letters")
        self.name = name


class DuplicateName(ScanError):
    def __init__(self, name):
        super().__init__("DuplicateName", "the name is in use already")
        self.name = name


class CapacityExceeded(ScanError):
    def __init__(self, limit):
        super().__init__("CapacityExceeded", "there are as many names as the limit allows")
        self.limit = limit


class InUse(ScanError):
    def __init__(self, name):
        super().__init__("InUse", "another definition uses the scan")
        self.name = name


class InvalidLimit(ScanError):
    def __init__(self, limit):
        super().__init__("InvalidLimit", "not a fitting limit")
        self.limit = limit


class InvalidCommand(ScanError):
    def __init__(self, first):
        super().__init__("InvalidCommand", "not a command")
        self.first = first


class ParseError(ScanError):
    def __init__(self, line):
        super().__init__("ParseError", "the text is not of the form")
        self.line = line


class NotGiven(ScanError):
    def __init__(self, name):
        super().__init__("NotGiven", "the scan was not given by a tree")
        self.name = name


class Broken(ScanError):
    def __init__(self, name):
        super().__init__("Broken", "a scan could no longer be made")
        self.name = name


class Missing(LookupError):
    """What the errors about something that is not there have in common."""

    def __init__(self, tag, why):
        super().__init__(why)
        self.tag = tag


class UnknownName(Missing):
    def __init__(self, name):
        super().__init__("UnknownName", "there is no such name")
        self.name = name


class NothingLeft(IndexError):
    def __init__(self):
        super().__init__("there is no such step")
        self.tag = "NothingLeft"
