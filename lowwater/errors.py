"""The refusals: each stands under LowwaterError, none under another one."""


class LowwaterError(ValueError):
    """Any refusal."""

    def __init__(self, text=""):
        ValueError.__init__(self, text)


class NoRow(LowwaterError):
    """A row that is none; the field row is its number."""

    def __init__(self, row):
        LowwaterError.__init__(self, f"row {row} is none")
        self.row = row


class NoQuotient(LowwaterError):
    """Nothing can be divided by 0."""


class TooGreat(LowwaterError):
    """More than a sum may have: a degree or terms beyond its bounds."""


class NoText(LowwaterError):
    """A text that is not a sum so written."""


class NotSecond(LowwaterError):
    """A sum of a degree above 2."""


class NotStraight(LowwaterError):
    """A sum of a degree above 1."""


class TooMany(LowwaterError):
    """More boxes than the limit."""


class NoLine(LowwaterError):
    """A row that the desk doesn't know."""
