"""Questions about any values."""


def is_integer(value):
    """Whether a value is an integer; True and False are none."""
    return isinstance(value, int) and not isinstance(value, bool)


def is_within(value, least, most):
    """Whether a value is an integer from least to most, None being no bound."""
    if not is_integer(value):
        return False
    return (least is None or least <= value) and (most is None or value <= most)


def is_list(value, least, most):
    """Whether a value is a list or a tuple of least to most items, None being no bound."""
    if not isinstance(value, (list, tuple)):
        return False
    return (least is None or least <= len(value)) and (most is None or len(value) <= most)
