"""All errors that this package raises."""


class StageError(ValueError):
    """The base of all errors of this package."""


class InvalidWord(StageError):
    """A value that is no word of the width that is due."""

    def __init__(self, given):
        self.given = given


class InvalidNumber(StageError):
    """A value that is no whole number within the bounds told."""

    def __init__(self, given):
        self.given = given


class InvalidHeaders(StageError):
    """A value that is no headers."""

    def __init__(self, given):
        self.given = given


class InvalidFrame(StageError):
    """A value that is no frame of headers, a parser and an order."""

    def __init__(self, given):
        self.given = given


class InvalidPacket(StageError):
    """A value that is no packet."""

    def __init__(self, given):
        self.given = given


class InvalidFields(StageError):
    """A value that is no fields of a frame, or no words of a header."""

    def __init__(self, given):
        self.given = given


class InvalidRest(StageError):
    """A value that is no row of as many bytes as are due."""

    def __init__(self, given):
        self.given = given


class InvalidWay(StageError):
    """A value that is no way through a parser."""

    def __init__(self, given):
        self.given = given


class InvalidProgram(StageError):
    """A value that is no program."""

    def __init__(self, given):
        self.given = given


class InvalidContents(StageError):
    """A value that is no contents of the program's tables."""

    def __init__(self, given):
        self.given = given


class InvalidCells(StageError):
    """A value that is no cells of the program's registers."""

    def __init__(self, given):
        self.given = given


class InvalidFilling(StageError):
    """A value that is no filling of the program's boxes."""

    def __init__(self, given):
        self.given = given


class InvalidKeys(StageError):
    """A value that is no keys of a table."""

    def __init__(self, given):
        self.given = given


class InvalidForm(StageError):
    """A value that is no form over the bits of the keys."""

    def __init__(self, given):
        self.given = given


class InvalidUnits(StageError):
    """A value that is no made program of the program."""

    def __init__(self, given):
        self.given = given


class InvalidLayout(StageError):
    """A value that is no layout of the made program."""

    def __init__(self, given):
        self.given = given


class InvalidChip(StageError):
    """A value that is no chip."""

    def __init__(self, given):
        self.given = given


class TooMany(StageError):
    """How many there would be, where this is more than is allowed."""

    def __init__(self, given):
        self.given = given


class InvalidPackets(StageError):
    """The index of the first wrong packet, None for no row of packets."""

    def __init__(self, index):
        self.index = index


class InvalidEntries(StageError):
    """The index of the first wrong entry, None for no row of entries."""

    def __init__(self, index):
        self.index = index


class InvalidWords(StageError):
    """The index of the first wrong word, None for no row of words."""

    def __init__(self, index):
        self.index = index


class InvalidComing(StageError):
    """The index of the first wrong one that comes, None for no row of them."""

    def __init__(self, index):
        self.index = index


class InvalidLines(StageError):
    """The index of the first wrong line, None for no text or no row of lines."""

    def __init__(self, index):
        self.index = index


class InvalidWriting(StageError):
    """Where a writing is refused, None where its forms are right or it is no text."""

    def __init__(self, place):
        self.place = place


class NotShown(StageError):
    """Neither of two claims can be shown by a paper here."""
