"""The errors that this package raises, each one under its base class."""


class WrongValue(ValueError):
    """The base class for values that are not what they should be."""


class InvalidText(WrongValue):
    """A value that is not the text of a fair."""

    def __init__(self, given):
        self.given = given


class InvalidNumber(WrongValue):
    """A value that is not such an integer."""

    def __init__(self, given):
        self.given = given


class InvalidName(WrongValue):
    """A value that is not a name."""

    def __init__(self, given):
        self.given = given


class InvalidTables(WrongValue):
    """A value that is not a number of tables."""

    def __init__(self, given):
        self.given = given


class InvalidRound(WrongValue):
    """A value that is not a round of the fair."""

    def __init__(self, given):
        self.given = given


class InvalidSchedule(WrongValue):
    """A value that is not a schedule."""

    def __init__(self, given):
        self.given = given


class InvalidWish(WrongValue):
    """A value that is not a wish."""

    def __init__(self, given):
        self.given = given


class InvalidIndex(WrongValue):
    """A value that is not an index of anything there."""

    def __init__(self, given):
        self.given = given


class NotAFair(WrongValue):
    """A value that is not a fair."""

    def __init__(self, given):
        self.given = given


class InvalidHosts(WrongValue):
    """A value that is not the hosts of a fair."""

    def __init__(self, index):
        self.index = index


class InvalidGuests(WrongValue):
    """A value that is not the guests of a fair."""

    def __init__(self, index):
        self.index = index


class InvalidMeetings(WrongValue):
    """A value that is not a table of meetings of the fair."""

    def __init__(self, index):
        self.index = index


class InvalidUrgent(WrongValue):
    """A value that is not a table of urgent meetings."""

    def __init__(self, index):
        self.index = index


class InvalidGrowth(WrongValue):
    """A value that is not a table by which meetings grow."""

    def __init__(self, index):
        self.index = index


class InvalidChanges(WrongValue):
    """A value that is not a tuple of changes."""

    def __init__(self, index):
        self.index = index


class InvalidAsked(WrongValue):
    """A value that is not a tuple of loads that are asked for."""

    def __init__(self, index):
        self.index = index


class WrongName(LookupError):
    """The base class for names under which there is nothing."""


class UnknownName(WrongName):
    """A value that is none of the names there."""

    def __init__(self, given):
        self.given = given


class NoAnswer(ArithmeticError):
    """The base class for questions and changes that are well put but have no answer."""


class TooFewRounds(NoAnswer):
    """There are fewer rounds than the load, which is told."""

    def __init__(self, given):
        self.given = given


class TooMany(NoAnswer):
    """There are not so many meetings left as the round, which is told, would take."""

    def __init__(self, given):
        self.given = given


class NothingToUndo(NoAnswer):
    """There is no change that can be taken back."""

    def __init__(self):
        pass


class Broken(NoAnswer):
    """A wish would not hold, the first one of which is told by its index."""

    def __init__(self, index):
        self.index = index
