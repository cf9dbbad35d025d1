"""The errors of the package. Each keeps what was wrong in attributes; the texts say nothing more."""


class ButtError(ValueError):
    """What all errors of the package have in common."""


class AllKnown(ButtError):
    """Nothing is left to ask."""


class BadAnswer(ButtError):
    """No heap would fit with this answer."""

    def __init__(self, number):
        self.number = number


class BadLine(ButtError):
    """The line with this number is not written as a request."""

    def __init__(self, number):
        self.number = number


class BadRun(ButtError):
    """The number at this place is no run."""

    def __init__(self, place):
        self.place = place


class BadText(ButtError):
    """The piece with this number is not written as it must be."""

    def __init__(self, piece):
        self.piece = piece


class Known(ButtError):
    """This name is there already."""

    def __init__(self, name):
        self.name = name


class NoNumber(ButtError):
    """There is no such number."""

    def __init__(self, number):
        self.number = number


class NoPlace(ButtError):
    """There is no place with this number."""

    def __init__(self, number):
        self.number = number


class NoStep(ButtError):
    """The step at this place can not be done."""

    def __init__(self, place):
        self.place = place


class NoStrike(ButtError):
    """The run at this place can not be struck."""

    def __init__(self, place):
        self.place = place


class NoYear(ButtError):
    """No year has this name."""

    def __init__(self, name):
        self.name = name


class NothingDone(ButtError):
    """There is nothing to take back."""


class OtherDays(ButtError):
    """Two gardens do not have as many days."""
