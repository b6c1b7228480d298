"""The errors of the package, one class for each kind of failure.

Those without a field have an __init__ of their own, because without one they would be made
with anything that is passed, as ValueError is.
"""


class RoundError(ValueError):
    """Any failure that this package names."""


class BadWeb(RoundError):
    """What was passed is no web: part is "many", -1, the number of a tie, or "joined"."""

    def __init__(self, part):
        self.part = part


class NoHouse(RoundError):
    """A web has no such house, or a house no such neighbour."""

    def __init__(self):
        super().__init__()


class BadProgram(RoundError):
    """What was passed is no program: part is "starts", "to", "say" or "nexts"."""

    def __init__(self, part):
        self.part = part


class NoNumber(RoundError):
    """No number stands where one is due, or one that is too great or too small."""

    def __init__(self):
        super().__init__()


class NoCells(RoundError):
    """No tuple of as many small numbers as a house of the program has cells."""

    def __init__(self):
        super().__init__()


class NoSayings(RoundError):
    """No tuple of small numbers that can have been said to a house."""

    def __init__(self):
        super().__init__()


class BadKeeper(RoundError):
    """What was passed is no keeper: part is "parents" or "chosen"."""

    def __init__(self, part):
        self.part = part


class TooMany(RoundError):
    """A web has more houses than most."""

    def __init__(self, most):
        self.most = most


class NotAsleep(RoundError):
    """A house is started that is not asleep."""

    def __init__(self):
        super().__init__()


class NoWord(RoundError):
    """No word, or none that the house can hear then."""

    def __init__(self):
        super().__init__()


class NoGlass(RoundError):
    """No glass of the course."""

    def __init__(self):
        super().__init__()


class NoMove(RoundError):
    """No move, or none that can be done then."""

    def __init__(self):
        super().__init__()


class NoChoices(RoundError):
    """No choices: index is that of the first that is no number, or -1."""

    def __init__(self, index):
        self.index = index


class BadRecord(RoundError):
    """No record: index is that of the first that is no event, or -1."""

    def __init__(self, index):
        self.index = index


class NoMoment(RoundError):
    """No number of moves or events behind which one can stand."""

    def __init__(self):
        super().__init__()


class NoState(RoundError):
    """No state of an end of a link."""

    def __init__(self):
        super().__init__()


class NoParcel(RoundError):
    """No parcel, so there is no row of it."""

    def __init__(self):
        super().__init__()


class NoRow(RoundError):
    """No row, that is no tuple of bytes."""

    def __init__(self):
        super().__init__()


class BadRow(RoundError):
    """A row of no parcel: place is the first at which something is wrong."""

    def __init__(self, place):
        self.place = place


class NoCut(RoundError):
    """No tuple of how much of each waiting block is there behind a cut."""

    def __init__(self):
        super().__init__()


class NoBlocks(RoundError):
    """No list or tuple of rows."""

    def __init__(self):
        super().__init__()


class NoDeed(RoundError):
    """No deed, or one that can't be done then."""

    def __init__(self):
        super().__init__()


class NoPast(RoundError):
    """No past of a post."""

    def __init__(self):
        super().__init__()


class NoDisk(RoundError):
    """No disk, or one with blocks where none are let in."""

    def __init__(self):
        super().__init__()


class OtherHouse(RoundError):
    """A disk tells of another house, or of another course."""

    def __init__(self):
        super().__init__()


class BadDeeds(RoundError):
    """No deeds: index is that of the first that can't be done, or -1."""

    def __init__(self, index):
        self.index = index


class BadText(RoundError):
    """A text that can't be read: line is that of the first fault, or 0."""

    def __init__(self, line):
        self.line = line


class BadMoves(RoundError):
    """No moves: index is that of the first that can't be next, or -1."""

    def __init__(self, index):
        self.index = index


class NoLine(RoundError):
    """No line that the desk understands."""

    def __init__(self):
        super().__init__()


class NoName(RoundError):
    """Nothing of its sort is kept under this name."""

    def __init__(self, name):
        self.name = name
