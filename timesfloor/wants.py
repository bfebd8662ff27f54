"""What several functions ask of their arguments, and the errors they raise."""

from timesfloor.checks import is_list, is_within
from timesfloor.errors import BadNumber, BadPoint, BadWay
from timesfloor.numbers import is_number

MOST_STEPS = 400


def want_within(value, least, most, part):
    """Refuses what is no integer from least to most; part is the name of the parameter."""
    if not is_within(value, least, most):
        raise BadNumber(part)


def want_point(value, wide):
    """Refuses what is no point of so many numbers."""
    if not is_list(value, wide, wide) or not all([is_number(item) for item in value]):
        raise BadPoint("point")


def want_way(value, many):
    """Refuses what is no way of a machine of so many pieces."""
    if not is_list(value, 1, MOST_STEPS) or not all([is_within(item, 0, many - 1) for item in value]):
        raise BadWay("way")
