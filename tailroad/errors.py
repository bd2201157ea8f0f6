"""The refusals of the package."""


class RoadError(ValueError):
    """Any refusal."""


class NoFunction(RoadError):
    """A function is wanted that is not there."""


class BadCount(RoadError):
    """A function is given more or fewer numbers than it takes."""


class Unknown(RoadError):
    """A number is wanted at a place where none is known."""


class NoRow(RoadError):
    """A text writes no row."""
