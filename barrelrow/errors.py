"""The errors of the package."""


class RowError(ValueError):
    """The base class of all errors of the package."""


class InvalidRow(RowError):
    """A row that is not allowed: `part` tells what is wrong, and `index` where."""

    def __init__(self, part, index):
        super().__init__(f"wrong or missing in the {part} of the row, at index {index}")
        self.part = part
        self.index = index


class UnknownBarrel(RowError):
    """A row does not have a barrel with this `name`."""

    def __init__(self, name):
        super().__init__(f"the row has no barrel {name!r}")
        self.name = name


class OtherRain(RowError):
    """Two rows that should have the same rain do not."""


class InvalidNumber(RowError):
    """A number is out of its range."""


class Contradiction(RowError):
    """No amount of rain agrees with an observation and those before it."""
