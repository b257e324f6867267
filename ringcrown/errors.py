"""The refusals of the program."""


class RingError(ValueError):
    """Any refusal."""


class BadRing(RingError):
    """What is no list of 1 to 64 unlike whole numbers from nought on."""


class NoHand(RingError):
    """What is no place of a hand."""


class NoMail(RingError):
    """What is no place of a mail under way."""


class BadCount(RingError):
    """What is no count of hands from 1 to 64."""
