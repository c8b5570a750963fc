"""The refusals of the program: each kind has a class straight under HuntError."""


class HuntError(ValueError):
    """Any refusal."""


class BadWeb(HuntError):
    """No number of points that a web may have."""


class NoPoint(HuntError):
    """No point of the web."""


class BadTie(HuntError):
    """A tie that cannot be put in or taken out."""


class BadCount(HuntError):
    """A number that is none of those asked for."""


class TooMany(HuntError):
    """Too many seekers for a web of so many points."""


class BadStanding(HuntError):
    """No standing, or none of which this may be asked."""


class BadLine(HuntError):
    """A line that tells nothing of a web, at its place in the list."""

    def __init__(self, place):
        self.place = place
