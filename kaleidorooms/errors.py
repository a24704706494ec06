"""The errors of the package: HallError, and its direct subclasses with their fields."""


class HallError(ValueError):
    """The base class of all errors here."""


class BadPushes(HallError):
    """A value that is no pushes: index is that of the first thing that is wrong, None if it is no tuple of 1 to 8."""

    def __init__(self, index):
        self.index = index


class Lopsided(HallError):
    """Pushes of which just one of two lamps pushes the other one: one and other are the least such pair."""

    def __init__(self, one, other):
        self.one = one
        self.other = other


class BadHall(HallError):
    """A value that is no hall."""


class BadLamp(HallError):
    """A value that is no lamp of the hall."""


class BadLamps(HallError):
    """A value that is no ascending tuple of unlike lamps."""


class BadOrder(HallError):
    """A value that is no tuple of all lamps, each once."""


class BadWing(HallError):
    """A value that is no wing of the hall."""


class BadNumbers(HallError):
    """A value that is no tuple of an integer for each lamp."""


class NotBelow(HallError):
    """A lamp that is to be pressed, whose number is not below 0."""


class BadPlay(HallError):
    """A value that is no play: index is that of the first thing that cannot be pressed, None if it is no such tuple."""

    def __init__(self, index):
        self.index = index


class BadEnd(HallError):
    """Numbers at which no play ends, as some of them are below 0."""


class BadMany(HallError):
    """A value that is no integer from 0 to the greatest that is told."""


class BadRoom(HallError):
    """A value that is no room of the hall."""


class TooLong(HallError):
    """More presses or letters than most would be needed."""

    def __init__(self, most):
        self.most = most


class TooMany(HallError):
    """More than most things would come."""

    def __init__(self, most):
        self.most = most


class NotFlat(HallError):
    """A hall that is not one flat wing."""


class BadHeight(HallError):
    """A value that is no height."""


class BadShift(HallError):
    """A value that is no tuple of an integer for each lamp, of level 0."""


class BadLevel(HallError):
    """A start whose level is not 0."""


class BadWord(HallError):
    """A value that is no word: index is that of the first thing that is no lamp, None if it is no such tuple."""

    def __init__(self, index):
        self.index = index


class NotShort(HallError):
    """A word that is not short."""


class BadIndex(HallError):
    """A value that is no number of a short word."""


class BadMove(HallError):
    """A value that is no move, or cannot be done."""


class NotEnding(HallError):
    """A hall of which some wing is not ending."""


class BadArrow(HallError):
    """A value that is no such arrow of the hall."""


class BadArrows(HallError):
    """A value that is no lot: index is that of the first thing that is wrong, None if it is no list or tuple."""

    def __init__(self, index):
        self.index = index


class NotNearest(HallError):
    """A room that is not the nearest one of its suite."""


class BadRest(HallError):
    """A value that is no room of the part of the hall."""


class BadTurn(HallError):
    """A value that is no turn of the hall."""


class CannotFold(HallError):
    """A turn by which the hall cannot be folded."""


class NotFixed(HallError):
    """Numbers that a turn does not leave as they are."""


class TooWide(HallError):
    """Halls that have more than 8 lamps together."""


class BadPrices(HallError):
    """A value that is no prices."""


class BadFar(HallError):
    """A value that is no integer from 0 to 3."""


class BadNumber(HallError):
    """A value that is no number that a lamp can be given."""


class SameLamp(HallError):
    """The same lamp twice, where two are asked for."""


class BadTimes(HallError):
    """Values that do not tell how many times two lamps push each other."""


class BadLog(HallError):
    """A value that is no log: index is that of the first thing that is wrong, None if it is no tuple of at most 20."""

    def __init__(self, index):
        self.index = index


class InvalidText(HallError):
    """A text that cannot be read: line and word tell, counted from 1, where it cannot stand."""

    def __init__(self, line, word):
        self.line = line
        self.word = word


class BadJumps(HallError):
    """A value that is no jumps: index is that of the first thing that is wrong, None if it is no such tuple."""

    def __init__(self, index):
        self.index = index
