"""The refusals of tickoff."""


class TickError(ValueError):
    """Any refusal."""


class BadEntry(TickError):
    """What is no entry, or a side that is none."""


class BadSpan(TickError):
    """What is no span."""


class TooMany(TickError):
    """An entry that would make a group too large."""


class NoMatch(TickError):
    """What is none of the matches."""
