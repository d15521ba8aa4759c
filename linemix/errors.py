"""The errors of the package. Each one shows the arguments that it was called with as its message."""


class MixError(ValueError):
    """The base class of all errors of the package."""


class BadNumber(MixError):
    """An argument is no integer of the range asked; name tells which one."""

    def __init__(self, name):
        self.name = name


class BadPlace(MixError):
    """An argument is no place of the order; name tells which one."""

    def __init__(self, name):
        self.name = name


class BadFraction(MixError):
    """An argument is no fraction of the range asked; name tells which one."""

    def __init__(self, name):
        self.name = name


class BadSteps(MixError):
    """A list of steps has a wrong entry; place is its number."""

    def __init__(self, place):
        self.place = place


class HasRing(MixError):
    """A step puts a place below itself; place is the number of the step."""

    def __init__(self, place):
        self.place = place


class BadSet(MixError):
    """A set has a wrong entry; place is its number."""

    def __init__(self, place):
        self.place = place


class BadRow(MixError):
    """A row has a wrong entry or is too short; place is its number or the length."""

    def __init__(self, place):
        self.place = place


class BadLine(MixError):
    """A row breaks a step of the order; place is the number of the entry that comes too early."""

    def __init__(self, place):
        self.place = place


class BadPair(MixError):
    """A pair, or an entry of a lot, is wrong; place is -1, or the number of the entry."""

    def __init__(self, place):
        self.place = place


class BadCounts(MixError):
    """A list of counts has a wrong entry; place is its number."""

    def __init__(self, place):
        self.place = place


class BadLots(MixError):
    """A list of lots has a wrong entry; place is its number."""

    def __init__(self, place):
        self.place = place


class BadRates(MixError):
    """A list of rates or loads has a wrong entry; place is its number."""

    def __init__(self, place):
        self.place = place


class BadMix(MixError):
    """The lines of a mix have a wrong entry; place is its number."""

    def __init__(self, place):
        self.place = place


class BadNotes(MixError):
    """A list of notes has a wrong entry; place is its number."""

    def __init__(self, place):
        self.place = place


class BadParts(MixError):
    """A list of parts has a wrong entry; place is its number."""

    def __init__(self, place):
        self.place = place


class Missing(MixError):
    """Something that must be there is missing; place tells where."""

    def __init__(self, place):
        self.place = place


class NotOpen(MixError):
    """Two places are not open, or their step is no next step."""

    def __init__(self, low, high):
        self.low = low
        self.high = high


class AreOpen(MixError):
    """Two places are open that must not be."""

    def __init__(self, low, high):
        self.low = low
        self.high = high


class NotHeld(MixError):
    """A step of one order is missing in the other one."""

    def __init__(self, low, high):
        self.low = low
        self.high = high


class Unfit(MixError):
    """A count stands at what is no pair of the order."""

    def __init__(self, x, y):
        self.x = x
        self.y = y


class Crossing(MixError):
    """Two things cross that must not."""

    def __init__(self, x, y):
        self.x = x
        self.y = y


class OtherSize(MixError):
    """Two sizes differ that must be equal; size is that of the second one."""

    def __init__(self, size):
        self.size = size


class TooMany(MixError):
    """A bound is exceeded; number is the bound."""

    def __init__(self, number):
        self.number = number


class BadText(MixError):
    """A text has a wrong line; line is its number, from 1, or 0 for what is no text."""

    def __init__(self, line):
        self.line = line


class NoEnds(MixError):
    """An order without ends stands where ends are asked."""


class NoPairs(MixError):
    """There is no pair where at least one is asked."""


class NotLevel(MixError):
    """An order that is not level stands where a level one is asked."""


class NotForest(MixError):
    """An order that is no forest stands where a forest is asked."""


class NotAlike(MixError):
    """Two things are unlike that must be alike."""


class NoLines(MixError):
    """There are no lines where at least one is asked."""


class OtherTotal(MixError):
    """Two totals differ that must be equal."""


class NothingBack(MixError):
    """There is nothing to take back."""
