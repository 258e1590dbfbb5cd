"""What kind of value an argument is."""

_LETTERS = "abcdefghijklmnopqrstuvwxyz"


def integer(value):
    """Whether any value is an integer; True and False are none."""
    return isinstance(value, int) and not isinstance(value, bool)


def whole(value, least, most):
    """Whether any value is an integer from least to most."""
    return integer(value) and least <= value <= most


def is_name(value):
    """Whether any value is a name: 1 to 8 letters a to z."""
    return isinstance(value, str) and 1 <= len(value) <= 8 and all([letter in _LETTERS for letter in value])
