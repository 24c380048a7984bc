"""The refusals: one class for each kind, all of them under DealError."""


class DealError(ValueError):
    """Any refusal."""


class NoDealing(DealError):
    """The number is not that of a dealing that has begun."""


class Over(DealError):
    """The dealing is not open any more."""


class NoName(DealError):
    """No name, or no head where one is wanted."""


class NoValue(DealError):
    """No value where one is wanted."""


class NoMark(DealError):
    """Not a whole number from 0 to how many writes stand."""


class Taken(DealError):
    """A write to the name of another open dealing stands."""


class Late(DealError):
    """A version of the name is newer than the dealing's start."""


class Crossed(DealError):
    """The row has no place where the dealing could be kept."""


class Unlike(DealError):
    """A reading, walked again, would tell something else than its deed says."""
