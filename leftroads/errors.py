"""The errors of the program, one class for each thing that can be wrong."""


class RoadError(ValueError):
    """Any error of the program; `value` is what was wrong."""

    def __init__(self, value):
        self.value = value


class InvalidRoad(RoadError):
    """A text that is no road, or not one that is fit for its place."""


class InvalidFraction(RoadError):
    """A tuple that is no fraction."""


class InvalidMap(RoadError):
    """A tuple that is no map."""


class InvalidMachine(RoadError):
    """A tuple that is no machine."""


class InvalidBook(RoadError):
    """A list that is no book."""


class InvalidSquare(RoadError):
    """A tuple whose first integer is not above 0."""


class InvalidNumber(RoadError):
    """An integer that is out of its limits."""


class InvalidTurn(RoadError):
    """A text that is no turn."""


class HasEnded(RoadError):
    """A reader was led on after its road had ended."""


class NothingToUndo(RoadError):
    """A reader has read nothing that could be taken back."""


class Unreadable(RoadError):
    """A text that nothing is shown as."""
