"""The errors that the package raises.

No message shows a number that a caller passed: Python refuses to write out
integers of several thousand digits, and would raise an error of its own.
"""


class ShelfError(ValueError):
    """The base class of all errors of the package."""


class InvalidPlan(ShelfError):
    """A plan with an invalid part; the index is -1 for a wrong number of items."""

    def __init__(self, part, index):
        super().__init__(f"invalid {part}, at index {index}")
        self.part = part
        self.index = index


class InvalidState(ShelfError):
    """What is no state of the plan."""


class InvalidCount(ShelfError):
    """A number of ticks or of times that is out of range."""


class UnknownPlace(ShelfError):
    """A place that the plan does not have."""


class UnknownParcel(ShelfError):
    """A parcel that is not there."""


class UnknownShelf(ShelfError):
    """A shelf that the plan does not have."""


class UnknownCarrier(ShelfError):
    """A carrier that the plan does not have."""


class InvalidEffect(ShelfError):
    """What is not a tuple of the numbers from 0 on, each of them once."""


class DifferentSizes(ShelfError):
    """Two things that must be equally large, but are not."""


class InvalidParcels(ShelfError):
    """Parcels that cannot be there."""


class Contradiction(ShelfError):
    """An observation that cannot be true."""


class InvalidArrangement(ShelfError):
    """An arrangement that does not consist of the parcels of the state."""


class InvalidSwap(ShelfError):
    """A list of swaps with an item that is no swap."""

    def __init__(self, index):
        super().__init__(f"no swap at index {index}")
        self.index = index


class ShelfFull(ShelfError):
    """A shelf that takes no further parcel."""


class ParcelCarried(ShelfError):
    """A parcel that a carrier carries."""


class ProgramSyntaxError(ShelfError):
    """A program that does not fit the grammar."""

    def __init__(self, row, column):
        super().__init__(f"wrong syntax in row {row}, column {column}")
        self.row = row
        self.column = column


class ProgramError(ShelfError):
    """A program that fits the grammar, but cannot be performed."""

    def __init__(self, reason, row, column):
        super().__init__(f"wrong {reason} in row {row}, column {column}")
        self.reason = reason
        self.row = row
        self.column = column


class InvalidText(ShelfError):
    """A text with a row that is not formed as it must be."""

    def __init__(self, row):
        super().__init__(f"wrong form of row {row}")
        self.row = row


class InvalidData(ShelfError):
    """Bytes that encode nothing."""

    def __init__(self, offset):
        super().__init__(f"wrong data at offset {offset}")
        self.offset = offset
