"""The errors that the package raises: one class for each kind of failure."""


class TwinpurseError(ValueError):
    """Stands above all errors of the package."""


class BadProgram(TwinpurseError):
    """What was handed in is not a program."""


class BadStanding(TwinpurseError):
    """What was handed in is not a standing."""


class BadFan(TwinpurseError):
    """What was handed in is not a fan, or not a list of fans."""


class BadRoad(TwinpurseError):
    """What was handed in is not a road, or cannot be made."""


class BadArgument(TwinpurseError):
    """Another argument has a value that the function does not take."""


class BadText(TwinpurseError):
    """A text is not the textual form of anything."""


class TooLarge(TwinpurseError):
    """What was handed in goes beyond what the function works out."""


class BadLine(TwinpurseError):
    """A line does not operate the desk."""
