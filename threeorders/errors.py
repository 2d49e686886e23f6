"""The errors of the package. Each one keeps what it was given, and the name of its class as its code."""

from threeorders.copies import copied


class FindError(ValueError):
    """What was passed is wrong, or cannot be."""


class InvalidName(FindError):
    """A value is no name."""

    def __init__(self, value):
        self.value = copied(value)
        self.code = "InvalidName"


class InvalidLot(FindError):
    """A lot, or an item of one, is wrong."""

    def __init__(self, at):
        self.at = copied(at)
        self.code = "InvalidLot"


class InvalidFind(FindError):
    """The finds, or one of them, are wrong."""

    def __init__(self, at):
        self.at = copied(at)
        self.code = "InvalidFind"


class InvalidWord(FindError):
    """The words of a book, or one of them, are wrong."""

    def __init__(self, at):
        self.at = copied(at)
        self.code = "InvalidWord"


class InvalidFact(FindError):
    """The facts, or one of them, are wrong."""

    def __init__(self, at):
        self.at = copied(at)
        self.code = "InvalidFact"


class InvalidOrder(FindError):
    """The given orders, or one of them, are wrong."""

    def __init__(self, at):
        self.at = copied(at)
        self.code = "InvalidOrder"


class InvalidKind(FindError):
    """The kinds, or one of them, are wrong."""

    def __init__(self, at):
        self.at = copied(at)
        self.code = "InvalidKind"


class InvalidPair(FindError):
    """The pairs, or one of them, are wrong."""

    def __init__(self, at):
        self.at = copied(at)
        self.code = "InvalidPair"


class InvalidDeed(FindError):
    """A deed of a call is wrong."""

    def __init__(self, at):
        self.at = copied(at)
        self.code = "InvalidDeed"


class InvalidText(FindError):
    """A line of a text is wrong."""

    def __init__(self, line, why):
        self.line = copied(line)
        self.why = copied(why)
        self.code = "InvalidText"


class InvalidNumber(FindError):
    """A value is none of the numbers that may stand there."""

    def __init__(self, value):
        self.value = copied(value)
        self.code = "InvalidNumber"


class InvalidStatement(FindError):
    """A value is no statement."""

    def __init__(self):
        self.code = "InvalidStatement"


class InvalidQuestion(FindError):
    """A value is no question."""

    def __init__(self):
        self.code = "InvalidQuestion"


class InvalidClaim(FindError):
    """A value is no claim."""

    def __init__(self):
        self.code = "InvalidClaim"


class InvalidTimes(FindError):
    """A find has no time."""

    def __init__(self, name):
        self.name = copied(name)
        self.code = "InvalidTimes"


class InvalidWeights(FindError):
    """A find has no weight."""

    def __init__(self, name):
        self.name = copied(name)
        self.code = "InvalidWeights"


class DuplicateName(FindError):
    """A name stands twice."""

    def __init__(self, name):
        self.name = copied(name)
        self.code = "DuplicateName"


class TooMany(FindError):
    """There are more than may be."""

    def __init__(self, most):
        self.most = copied(most)
        self.code = "TooMany"


class TooFew(FindError):
    """There are fewer than must be."""

    def __init__(self, least):
        self.least = copied(least)
        self.code = "TooFew"


class CannotStand(FindError):
    """A book does not stand: it has a bar of three lots."""

    def __init__(self, one, two, three):
        self.one = copied(one)
        self.two = copied(two)
        self.three = copied(three)
        self.code = "CannotStand"


class Standing(FindError):
    """A book stands, and so has no bar."""

    def __init__(self):
        self.code = "Standing"


class Clash(FindError):
    """No order fits the facts with these marks."""

    def __init__(self, marks):
        self.marks = copied(marks)
        self.code = "Clash"


class NotFitting(FindError):
    """A value is no order that fits."""

    def __init__(self):
        self.code = "NotFitting"


class NotShown(FindError):
    """A statement cannot be derived."""

    def __init__(self):
        self.code = "NotShown"


class NotABlock(FindError):
    """A value is no block."""

    def __init__(self, lot):
        self.lot = copied(lot)
        self.code = "NotABlock"


class OtherFinds(FindError):
    """Two things have different finds."""

    def __init__(self):
        self.code = "OtherFinds"


class Same(FindError):
    """Two names that must differ are the same."""

    def __init__(self, name):
        self.name = copied(name)
        self.code = "Same"


class NoTable(FindError):
    """No table has the meetings."""

    def __init__(self, why, found):
        self.why = copied(why)
        self.found = copied(found)
        self.code = "NoTable"


class Taken(FindError):
    """A name is in use already."""

    def __init__(self, name):
        self.name = copied(name)
        self.code = "Taken"


class InUse(FindError):
    """A saying names the find."""

    def __init__(self, mark):
        self.mark = copied(mark)
        self.code = "InUse"


class NoFinds(FindError):
    """There are no finds."""

    def __init__(self):
        self.code = "NoFinds"


class Missing(LookupError):
    """What was asked for is not there."""


class UnknownName(Missing):
    """Nothing has this name."""

    def __init__(self, name):
        self.name = copied(name)
        self.code = "UnknownName"


class UnknownFind(Missing):
    """No find has this name."""

    def __init__(self, name):
        self.name = copied(name)
        self.code = "UnknownFind"


class UnknownNode(Missing):
    """A value is no node."""

    def __init__(self, lot):
        self.lot = copied(lot)
        self.code = "UnknownNode"


class UnknownKept(Missing):
    """No kept derivation has this number."""

    def __init__(self, at):
        self.at = copied(at)
        self.code = "UnknownKept"


class NothingLeft(IndexError):
    """There is no step to take back or to do again."""

    def __init__(self):
        self.code = "NothingLeft"
