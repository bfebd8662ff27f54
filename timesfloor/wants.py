"""What several functions ask of their arguments, and the errors they raise."""

from timesfloor.checks import is_list, is_within
from timesfloor.errors import BadNumber, BadPoint, BadWay
from timesfloor.numbers import is_number

MOST_STEPS = 400


def want_within(value, least, most, part):
    """Refuses what is no integer from least to most; part is the name of the parameter."""
    if not is_within(value, least, most):
        raise BadNumber(part)


def want_integer(value, part):
    """Refuses what is no integer; part is the name of the parameter."""
    want_within(value, None, None, part)


def is_point(value, least, most):
    """Whether a value is a point of least to most numbers."""
    return is_list(value, least, most) and all([is_number(item) for item in value])


def want_point(value, wide):
    """Refuses what is no point of so many numbers."""
    if not is_point(value, wide, wide):
        raise BadPoint("point")


def is_way(value, many):
    """Whether a value is a way of a machine of so many pieces."""
    return is_list(value, 1, MOST_STEPS) and all([is_within(item, 0, many - 1) for item in value])


def want_way(value, many):
    """Refuses what is no way of a machine of so many pieces."""
    if not is_way(value, many):
        raise BadWay("way")
