"""The errors of the package."""


class RowError(ValueError):
    """The base class of all errors of the package."""


class InvalidRow(RowError):
    """A row that is not allowed: `part` tells what is wrong, and `index` where."""

    def __init__(self, part, index):
        super().__init__(f"wrong or missing in the {part} of the row, at index {index}")
        self.part = part
        self.index = index


class UnknownBarrel(RowError):
    """A row does not have a barrel with this `name`."""

    def __init__(self, name):
        super().__init__(f"the row has no barrel {name!r}")
        self.name = name


class OtherRain(RowError):
    """Two rows that should have the same rain do not."""


class InvalidNumber(RowError):
    """A number is out of its range."""


class Contradiction(RowError):
    """No amount of rain agrees with an observation and those before it."""


class InvalidWeather(RowError):
    """Weather that is not allowed: `part` is the first parameter that is out of its range."""

    def __init__(self, part):
        super().__init__(f"the {part} of the weather is out of its range")
        self.part = part


class InvalidOperation(RowError):
    """A tuple at this `index` is no operation of a live row."""

    def __init__(self, index):
        super().__init__(f"no operation at index {index}")
        self.index = index


class InvalidText(RowError):
    """The text of a row that has another form than it should have, first in this `line`."""

    def __init__(self, line):
        super().__init__(f"wrong or missing in the text, in line {line}")
        self.line = line


class DaybookError(RowError):
    """A daybook that cannot be, first in this `line`."""

    def __init__(self, line):
        super().__init__(f"wrong in the daybook, in line {line}")
        self.line = line


class DecodeError(RowError):
    """A code of no row, first at this `offset`."""

    def __init__(self, offset):
        super().__init__(f"wrong or missing in the code, at offset {offset}")
        self.offset = offset
