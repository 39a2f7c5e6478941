"""The refusals of the program, one class for each kind."""


class WillError(ValueError):
    """Any refusal."""


class NoBox(WillError):
    """There is no box of this number."""


class NoSlot(WillError):
    """The box has no slot of this number, or no box is of this size."""


class NoHand(WillError):
    """The box is not in the hands."""


class NoPair(WillError):
    """There is no pair of this number."""


class NoWill(WillError):
    """A list of deeds that is no will."""


class TooMany(WillError):
    """The chest is full."""


class NoText(WillError):
    """The text is not that of a chest."""
