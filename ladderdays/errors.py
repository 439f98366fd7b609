"""The errors of the program, one class for each kind of failure."""


class DaysError(ValueError):
    """Whatever the program refuses; `value` is what it refused."""

    def __init__(self, value):
        self.value = value


class InvalidRow(DaysError):
    """What was passed is no row."""


class InvalidLadder(DaysError):
    """What was passed is no ladder, or none that can be turned round."""


class InvalidSet(DaysError):
    """What was passed is no set of days."""


class InvalidNumber(DaysError):
    """A number is less than it may be."""


class InvalidYears(DaysError):
    """What was passed are no years of a calendar."""


class InvalidDate(DaysError):
    """A calendar has no such date."""


class InvalidName(DaysError):
    """What was passed is no name."""


class DoubleName(DaysError):
    """A name stood before."""


class UnknownName(DaysError):
    """Nothing has this name."""


class NoDays(DaysError):
    """There are too few days."""


class InvalidNote(DaysError):
    """What was passed is no note, or gainsays one before."""


class NothingToUndo(DaysError):
    """No call stands that could be taken back."""


class Unreadable(DaysError):
    """Nothing has this text."""
