"""The errors of the package."""


class ChairError(ValueError):
    """The base class of all errors of the package."""


class InvalidPlan(ChairError):
    """A step is invalid, or there are too many; `index` is that of the first such step."""

    def __init__(self, *, index):
        super().__init__(f"step {index} is invalid or one too many")
        self.index = index


class TooFewChairs(ChairError):
    """A house has too few chairs for a plan; `index` is that of the first step that needs more."""

    def __init__(self, *, index):
        super().__init__(f"step {index} needs more chairs than there are")
        self.index = index


class InvalidEvidence(ChairError):
    """Indexes are no evidence; `index` is that of the first item that is wrong."""

    def __init__(self, *, index):
        super().__init__(f"item {index} is not allowed in evidence")
        self.index = index


class InvalidNumber(ChairError):
    """A number is out of its range."""


class Contradiction(ChairError):
    """No start would remain possible."""


class InvalidBooking(ChairError):
    """A booking has a wrong room, need or number of meetings."""


class InvalidText(ChairError):
    """A text of bookings is wrong; `row` is that of the first wrong line."""

    def __init__(self, *, row):
        super().__init__(f"row {row} is not a booking")
        self.row = row


class NotEnough(ChairError):
    """A meeting needs more chairs than a live house has."""


class InvalidOperation(ChairError):
    """An operation has a wrong form; `index` is that of the first such operation."""

    def __init__(self, *, index):
        super().__init__(f"operation {index} has a wrong form")
        self.index = index


class DaybookError(ChairError):
    """A daybook is wrong; `row` is that of the first wrong row."""

    def __init__(self, *, row):
        super().__init__(f"row {row} is not allowed in a daybook")
        self.row = row


class DecodeError(ChairError):
    """A code is wrong; `offset` is that of the first wrong integer, or their number if some are missing."""

    def __init__(self, *, offset):
        super().__init__(f"the code is wrong at offset {offset}")
        self.offset = offset
