"""What a whole number is."""


def is_whole(value):
    """Whether the value is a whole number; truths are none."""
    return isinstance(value, int) and not isinstance(value, bool)
