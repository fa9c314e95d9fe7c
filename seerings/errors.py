"""All errors that the package raises."""


class SeeError(ValueError):
    """The base class of all errors of the package."""


class InvalidCard(SeeError):
    """A part of a card is not as a card has it."""

    def __init__(self, part):
        SeeError.__init__(self, f"wrong part of a card: {part}")
        self.part = part


class InvalidDrawer(SeeError):
    """There are more cards than a drawer holds."""


class UnknownPlace(SeeError):
    """A drawer has no such place, or it is named twice."""


class InvalidRule(SeeError):
    """This is no rule of looking up."""


class InvalidHeading(SeeError):
    """A heading is no word."""


class InvalidWay(SeeError):
    """This is no way of going on."""


class InvalidNumber(SeeError):
    """A number is beyond its limits."""


class InvalidLog(SeeError):
    """A log, or a list of counts, has a heading that is no word."""

    def __init__(self, index):
        SeeError.__init__(self, f"wrong item of a log: {index}")
        self.index = index


class NoLoss(SeeError):
    """No losses are possible."""


class InvalidTally(SeeError):
    """A tally has a heading that is no word."""

    def __init__(self, index):
        SeeError.__init__(self, f"wrong item of a tally: {index}")
        self.index = index


class NoOrder(SeeError):
    """No order is possible."""


class InvalidRequests(SeeError):
    """A request is no word, or there are too many."""

    def __init__(self, index):
        SeeError.__init__(self, f"wrong request: {index}")
        self.index = index


class InvalidRows(SeeError):
    """A row of requests is wrong, or there are too many rows or none."""

    def __init__(self, index):
        SeeError.__init__(self, f"wrong row of requests: {index}")
        self.index = index


class InvalidName(SeeError):
    """A name is no word."""


class UnknownName(SeeError):
    """Nothing is kept under a name."""


class InvalidOperation(SeeError):
    """An operation is not made up as operations are."""

    def __init__(self, index):
        SeeError.__init__(self, f"wrong operation: {index}")
        self.index = index


class NoPair(SeeError):
    """No pair of a rule and a heading is possible."""


class Ended(SeeError):
    """It was told before that there was no look more."""


class InvalidText(SeeError):
    """A word of a text is wrong, superfluous or missing."""

    def __init__(self, row, word):
        SeeError.__init__(self, f"wrong word of a text: {word} in row {row}")
        self.row = row
        self.word = word


class DecodeError(SeeError):
    """An item of a code is wrong, superfluous or missing."""

    def __init__(self, offset):
        SeeError.__init__(self, f"wrong item of a code: {offset}")
        self.offset = offset


class ScriptError(SeeError):
    """A row of a script is no such row, or is missing."""

    def __init__(self, row):
        SeeError.__init__(self, f"wrong row of a script: {row}")
        self.row = row


class ExecutionFailed(SeeError):
    """A row of a script raised an error when it was executed."""

    def __init__(self, row):
        SeeError.__init__(self, f"a row of a script failed: {row}")
        self.row = row


class TooLong(SeeError):
    """A script takes too many steps."""
