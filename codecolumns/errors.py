"""The refusals: a class for each kind, all of them directly under ColumnError."""


class ColumnError(ValueError):
    """Any refusal."""


class BadNumber(ColumnError):
    """A number that may not stand where it was handed in."""


class BadValues(ColumnError):
    """Values that are none; place is that of the first."""

    def __init__(self, place):
        ColumnError.__init__(self, f"what stands at place {place} is no value here")
        self.place = place


class NoForm(ColumnError):
    """A form that there isn't, or that the values can't have."""


class BadPrices(ColumnError):
    """Prices that aren't prices of the values."""


class BadKinds(ColumnError):
    """Kinds of columns that are none, or aren't those of the store."""


class BadRows(ColumnError):
    """Rows that are none; place is that of the first."""

    def __init__(self, place):
        ColumnError.__init__(self, f"what stands at place {place} is no row here")
        self.place = place


class BadCondition(ColumnError):
    """A condition that is none."""


class BadColumn(ColumnError):
    """A column that there isn't, or that can't be summed."""


class BadHeap(ColumnError):
    """A heap that there isn't."""


class TooMany(ColumnError):
    """More heaps or rows than there may be."""


class BadBlock(ColumnError):
    """A block that there isn't, or what no block can take."""


class Stopped(ColumnError):
    """The disk has stopped."""


class BadText(ColumnError):
    """A text that is no condition; place is that of its first wrong word."""

    def __init__(self, place):
        ColumnError.__init__(self, f"the word at place {place} can't stand there")
        self.place = place
