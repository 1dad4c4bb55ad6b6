"""The refusals, each a class of its own, so that each can be caught by its name."""


class BookError(ValueError):
    """Any refusal."""


class BadContract(BookError):
    """What was handed in is no contract."""


class BadMarket(BookError):
    """What was handed in makes no market."""


class TooMany(BookError):
    """A market has more futures than are told."""


class BadText(BookError):
    """A text tells no contract."""
