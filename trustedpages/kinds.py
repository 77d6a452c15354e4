"""What a value of any kind is: the tests that the other modules share."""


def is_whole(value):
    """True for an integer; True and False are none."""
    return isinstance(value, int) and not isinstance(value, bool)


def is_between(value, low, high):
    """True for an integer from low to high."""
    return is_whole(value) and low <= value <= high


def is_one_of(value, known):
    """True for a string that is one of these."""
    return isinstance(value, str) and value in known
