"""Whether a paper that is shown is just the one that is told."""

from timesfloor.checks import is_integer


def is_same(value, told):
    """Whether a value is what is told: integers, strings, None, tuples of such; True and False are no integers."""
    if told is None:
        return value is None
    if isinstance(told, str):
        return isinstance(value, str) and value == told
    if not isinstance(told, tuple):
        return is_integer(value) and value == told
    if not isinstance(value, tuple) or len(value) != len(told):
        return False
    return all([is_same(item, wanted) for item, wanted in zip(value, told)])


def is_told(value, paper):
    """Whether any value is a paper of the same class, with the same parts."""
    return paper.is_one(value) and is_same(value.parts, paper.parts)
