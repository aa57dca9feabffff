"""All errors of the package; each keeps what it was made with."""


class MergeError(Exception):
    """The base class of all errors of the package."""


class InvalidText(MergeError):
    """A value is no text."""

    def __init__(self, at):
        self.at = at


class InvalidTexts(MergeError):
    """A value is no told version, or was told before."""

    def __init__(self, at):
        self.at = at


class InvalidVersions(MergeError):
    """A value is no version where alike ones are let."""

    def __init__(self, at):
        self.at = at


class InvalidWord(MergeError):
    """A value is no word."""

    def __init__(self, at):
        self.at = at


class InvalidTies(MergeError):
    """A value is no tie, or one that may not stand there."""

    def __init__(self, at):
        self.at = at


class InvalidPlace(MergeError):
    """A value is no place."""

    def __init__(self, at):
        self.at = at


class InvalidEnds(MergeError):
    """A value is no end, or was there before."""

    def __init__(self, at):
        self.at = at


class InvalidWeb(MergeError):
    """A place lies on no way, or a value is no web."""

    def __init__(self, at):
        self.at = at


class InvalidLetter(MergeError):
    """A value is no letter."""

    def __init__(self, at):
        self.at = at


class InvalidHistory(MergeError):
    """A value is no step of a history."""

    def __init__(self, at):
        self.at = at


class InvalidDeeds(MergeError):
    """A value is no deed or step."""

    def __init__(self, at):
        self.at = at


class InvalidChanges(MergeError):
    """A value is no change."""

    def __init__(self, at):
        self.at = at


class InvalidRow(MergeError):
    """A value may not stand in a row."""

    def __init__(self, at):
        self.at = at


class InvalidOrder(MergeError):
    """A value may not stand in an order."""

    def __init__(self, at):
        self.at = at


class InvalidLots(MergeError):
    """A value is no lot of places."""

    def __init__(self, at):
        self.at = at


class InvalidCells(MergeError):
    """A value is no cell, or no table."""

    def __init__(self, at):
        self.at = at


class InvalidBags(MergeError):
    """A value is no told bag, or was told before."""

    def __init__(self, at):
        self.at = at


class InvalidBag(MergeError):
    """A value is no bag."""

    def __init__(self, at):
        self.at = at


class InvalidBases(MergeError):
    """A value is no base, or was there before."""

    def __init__(self, at):
        self.at = at


class InvalidPlan(MergeError):
    """A value is no step of a plan."""

    def __init__(self, at):
        self.at = at


class InvalidLabel(MergeError):
    """A value is no row of a label."""

    def __init__(self, at):
        self.at = at


class InvalidMarks(MergeError):
    """A value is no mark."""

    def __init__(self, at):
        self.at = at


class InvalidChain(MergeError):
    """A value is no text of a chain."""

    def __init__(self, at):
        self.at = at


class InvalidIndex(MergeError):
    """No thing has this number."""

    def __init__(self, at):
        self.at = at


class Refused(MergeError):
    """The thing at this place, or of this name, does not let it be."""

    def __init__(self, at):
        self.at = at


class InvalidSize(MergeError):
    """The number of this name is none that may stand there."""

    def __init__(self, word):
        self.word = word


class InvalidCommand(MergeError):
    """A command that is not known, or that cannot be done yet."""
