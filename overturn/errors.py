"""The errors of the program."""


class OverturnError(ValueError):
    """The base class of all errors."""


class CauseError(OverturnError):
    """A text is not a valid cause."""

    def __init__(self, place, reason):
        super().__init__(f"not a valid cause: {reason!r} at {place}")
        self.place = place
        self.reason = reason


class TwoWays(OverturnError):
    """Neither of the two costs of an issue is 0."""

    def __init__(self, number):
        super().__init__(f"neither cost of issue {number} is 0")
        self.number = number


class BadConfig(OverturnError):
    """A configuration is not valid."""

    def __init__(self, errors):
        super().__init__(f"not a valid configuration: {errors!r}")
        self.errors = errors


class NotReversible(OverturnError):
    """A reversal cost is infinite, so there is no reversal path."""


class DayPassed(OverturnError):
    """A filing is on a day that is less than the day of the docket."""


class NothingToUndo(OverturnError):
    """A log is shorter than the number of its elements to undo."""
