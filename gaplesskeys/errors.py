"""The errors of the package. Each one keeps the value that it was made of."""


class GapError(ValueError):
    """The base class for invalid input."""


class InvalidRange(GapError):
    """The first or the last moment of a range is none."""

    def __init__(self, value):
        self.value = value


class InvalidMoment(GapError):
    """A value is not a moment, or not one that fits here."""

    def __init__(self, value):
        self.value = value


class InvalidContents(GapError):
    """A part of the contents of an edition is wrong."""

    def __init__(self, part):
        self.part = part


class InvalidPlan(GapError):
    """An edition does not fit into a plan, or a value is no plan."""

    def __init__(self, number):
        self.number = number


class InvalidKind(GapError):
    """A value does not make a kind of services."""

    def __init__(self, value):
        self.value = value


class InvalidCall(GapError):
    """A value does not make or name a call."""

    def __init__(self, value):
        self.value = value


class InvalidRun(GapError):
    """A machine or a shown credential of a run is wrong."""

    def __init__(self, number):
        self.number = number


class InvalidDays(GapError):
    """A value is no dict of days or of lifetimes."""

    def __init__(self, value):
        self.value = value


class InvalidKeys(GapError):
    """A value is not a key, not keys, or not a number of them."""

    def __init__(self, value):
        self.value = value


class InvalidReport(GapError):
    """A report is of a moment of which there can be none."""

    def __init__(self, value):
        self.value = value


class ParseError(GapError):
    """A line of a text is not as it would be written."""

    def __init__(self, line):
        self.line = line


class InvalidCommand(GapError):
    """A value is no command of the console, or not one for now."""

    def __init__(self, value):
        self.value = value


class UnknownName(LookupError):
    """A role, a kind or a service of this name is not there."""

    def __init__(self, name):
        self.name = name


class UnknownEdition(LookupError):
    """An edition of this number is not there."""

    def __init__(self, number):
        self.number = number


class NoKeyLeft(RuntimeError):
    """All keys that a role could use are lost."""

    def __init__(self, role):
        self.role = role


class TooSoon(RuntimeError):
    """Contents may not be published yet."""

    def __init__(self, moment):
        self.moment = moment


class Pending(RuntimeError):
    """An edition was begun and is not done."""

    def __init__(self, number):
        self.number = number


class LimitExceeded(OverflowError):
    """There would be more of something than the limit."""

    def __init__(self, limit):
        self.limit = limit
