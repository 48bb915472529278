"""The refusals: one class for each kind, all straight under CoverError."""


class CoverError(ValueError):
    """Something that was handed in is refused."""


class BadTable(CoverError):
    """What is handed in is no table."""


class BadChoice(CoverError):
    """What is handed in is no count of a choice, or no rising list of such."""


class BadNumber(CoverError):
    """What is handed in is no number, or none within its bounds."""


class BadOrder(CoverError):
    """What is handed in is no order of all things or of all choices."""


class BadPrices(CoverError):
    """What is handed in is no list of a number for each choice."""


class BadBars(CoverError):
    """What is handed in is no list of lengths, or no list of counts of bars as long as the strip."""


class Closed(CoverError):
    """The choice is not open."""


class Nothing(CoverError):
    """No deed is left to undo."""


class NoCover(CoverError):
    """What is handed in is no cover, or there is none."""


class TooGreat(CoverError):
    """What would come is beyond the bounds of a table."""
