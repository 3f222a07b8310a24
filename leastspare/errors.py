"""All errors of the package."""


class SpareError(ValueError):
    """The base of all errors of the package."""


class InvalidBlocks(SpareError):
    """Not a number of blocks."""

    def __init__(self, given):
        self.given = given


class InvalidContents(SpareError):
    """Not a number of contents."""

    def __init__(self, given):
        self.given = given


class InvalidFilling(SpareError):
    """Not a filling of the disk."""

    def __init__(self, given):
        self.given = given


class InvalidNumber(SpareError):
    """Not the number of what is asked for."""

    def __init__(self, given):
        self.given = given


class InvalidBlock(SpareError):
    """Not a block of the disk."""

    def __init__(self, given):
        self.given = given


class InvalidWrite(SpareError):
    """Not a write of the disk."""

    def __init__(self, given):
        self.given = given


class InvalidContent(SpareError):
    """Not a content of the disk."""

    def __init__(self, given):
        self.given = given


class InvalidRecords(SpareError):
    """Not a number of records."""

    def __init__(self, given):
        self.given = given


class InvalidChanges(SpareError):
    """Not a number of records to change at once."""

    def __init__(self, given):
        self.given = given


class InvalidTold(SpareError):
    """Not what the records of the layout may have."""

    def __init__(self, given):
        self.given = given


class InvalidWish(SpareError):
    """Not a wish of the layout."""

    def __init__(self, given):
        self.given = given


class InvalidLot(SpareError):
    """Not a lot of the layout."""

    def __init__(self, given):
        self.given = given


class InvalidCodes(SpareError):
    """Not a content for each place."""

    def __init__(self, given):
        self.given = given


class InvalidGroups(SpareError):
    """Not a row of groups of the disk."""

    def __init__(self, given):
        self.given = given


class InvalidEvents(SpareError):
    """Not a history of the layout."""

    def __init__(self, given):
        self.given = given


class InvalidValues(SpareError):
    """Not values, or not a number of values."""

    def __init__(self, given):
        self.given = given


class InvalidCount(SpareError):
    """Not a number of what is to be made."""

    def __init__(self, given):
        self.given = given


class InvalidPairs(SpareError):
    """Not the changes of a book."""

    def __init__(self, given):
        self.given = given


class InvalidValue(SpareError):
    """Not a value that can be taken here."""

    def __init__(self, given):
        self.given = given


class InvalidRules(SpareError):
    """Not the rules of a writer."""

    def __init__(self, given):
        self.given = given


class InvalidMemories(SpareError):
    """Not a number of contents of a memory."""

    def __init__(self, given):
        self.given = given


class InvalidSteps(SpareError):
    """Not the steps of a web."""

    def __init__(self, given):
        self.given = given


class InvalidState(SpareError):
    """Not the word of a shape with a known number of tables."""

    def __init__(self, given):
        self.given = given


class InvalidRing(SpareError):
    """Not a ring of the web."""

    def __init__(self, given):
        self.given = given


class InvalidNames(SpareError):
    """Not the names of a session."""

    def __init__(self, given):
        self.given = given


class InvalidText(SpareError):
    """Not a line of the session."""

    def __init__(self, given):
        self.given = given


class TooMany(SpareError):
    """More than the limit allows."""

    def __init__(self, count):
        self.count = count


class NotLeft(SpareError):
    """A cut cannot leave this filling."""

    def __init__(self, filling):
        self.filling = filling


class TooFar(SpareError):
    """More records differ than may be changed at once."""

    def __init__(self, count):
        self.count = count


class OtherDisk(SpareError):
    """Another disk is needed here."""

    def __init__(self, disk):
        self.disk = disk


class Busy(SpareError):
    """This wish is under way."""

    def __init__(self, wish):
        self.wish = wish


class NoWish(SpareError):
    """No wish is under way."""


class NotSafe(SpareError):
    """The filling with this number is not safe."""

    def __init__(self, number):
        self.number = number


class NoWay(SpareError):
    """The desk is broken: this is due, and that is told."""

    def __init__(self, change):
        self.change = change


class NotKept(SpareError):
    """The book has no table of this kind."""

    def __init__(self, reason):
        self.reason = reason


class BadLine(SpareError):
    """The line with this index raised an error."""

    def __init__(self, at):
        self.at = at


class NothingToUndo(SpareError):
    """No deed is left to undo."""


class NothingToRedo(SpareError):
    """No deed is left to redo."""
