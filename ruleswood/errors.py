"""The refusals of Ruleswood."""


class WoodError(ValueError):
    """Any refusal."""


class BadOrder(WoodError):
    """The signs do not tell an order."""


class NoTerm(WoodError):
    """A term does not fit the order."""


class NoPlace(WoodError):
    """The term has no such place."""


class BadText(WoodError):
    """The text is not that of a term or a pair."""


class TooHeavy(WoodError):
    """A term comes to more names and blanks than told."""


class TooLong(WoodError):
    """More steps than told are wanted."""
