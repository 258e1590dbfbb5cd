"""What kind of value an argument is."""


def whole(value, least, most):
    """Whether any value is an integer from least to most; True and False are no integers."""
    return isinstance(value, int) and not isinstance(value, bool) and least <= value <= most
