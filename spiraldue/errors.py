"""The errors of the package (point 3)."""


class SpiralError(ValueError):
    """The base of all errors of the package."""


class BadName(SpiralError):
    """A value that is no name."""


class BadCover(SpiralError):
    """A value that is no cover."""


class BadPanel(SpiralError):
    """A value that is no panel."""


class BadAmount(SpiralError):
    """A value that is no direct loss."""


class NameTaken(SpiralError):
    """A name that an insurer, or an event, has already."""

    def __init__(self, name):
        self.name = name


class NoSuchName(SpiralError):
    """A name that no insurer, or no event, has."""

    def __init__(self, name):
        self.name = name


class NoSuchTreaty(SpiralError):
    """A number that no treaty has."""

    def __init__(self, number):
        self.number = number


class TreatyEnded(SpiralError):
    """The number of a treaty that was ended already."""

    def __init__(self, number):
        self.number = number


class NoSuchNotice(SpiralError):
    """A number that no notice has, or that of a dropped one."""

    def __init__(self, number):
        self.number = number


class Twice(SpiralError):
    """A panel in which a participant stands twice."""


class OwnPanel(SpiralError):
    """A panel in which the cedent stands."""


class TooMany(SpiralError):
    """One more than there may be."""


class NoEnd(SpiralError):
    """Rounds that do not come to an end."""
