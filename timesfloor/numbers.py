"""Numbers: integers, and fractions as pairs (above, under) in lowest terms."""

from math import gcd

from timesfloor.checks import is_integer, is_list, is_within
from timesfloor.errors import BadFraction, BadNumber
from timesfloor.exact import added, common_under, is_less, made, multiplied, negated, parts_of, whole_part

MOST_ABOVE = 1000000
MOST_UNDER = 1000


def is_number(value):
    """Whether a value is an integer or a fraction in its one form."""
    if is_integer(value):
        return True
    if not is_list(value, 2, 2):
        return False
    above, under = value
    return is_integer(above) and is_within(under, 2, None) and gcd(above, under) == 1


def is_small(value):
    """Whether a value is a number that is small enough for a machine."""
    if not is_number(value):
        return False
    above, under = parts_of(value)
    return is_within(above, -MOST_ABOVE, MOST_ABOVE) and under <= MOST_UNDER


def want_number(value, part):
    """Refuses what is no number; part is the name of the parameter."""
    if not is_number(value):
        raise BadFraction(part)


def lowest(above, under):
    """The number that is worth above by under."""
    if not is_integer(above):
        raise BadNumber("above")
    if not is_integer(under) or under == 0:
        raise BadNumber("under")
    return made(above, under)


def plus(one, other):
    """The sum of two numbers."""
    want_number(one, "one")
    want_number(other, "other")
    return added(one, other)


def minus(one, other):
    """One number less the other."""
    want_number(one, "one")
    want_number(other, "other")
    return added(one, negated(other))


def times(one, other):
    """The product of two numbers."""
    want_number(one, "one")
    want_number(other, "other")
    return multiplied(one, other)


def over(one, other):
    """One number by the other, which is not 0."""
    want_number(one, "one")
    want_number(other, "other")
    above, under = parts_of(other)
    if above == 0:
        raise BadFraction("other")
    return multiplied(one, made(under, above))


def is_below(one, other):
    """Whether one number is less than the other."""
    want_number(one, "one")
    want_number(other, "other")
    return is_less(one, other)


def whole_of(number):
    """The greatest integer that is not above a number."""
    want_number(number, "number")
    return whole_part(number)


def rest_of(number):
    """A number less its whole part."""
    want_number(number, "number")
    above, under = parts_of(number)
    return made(above % under, under)


def least_whole(numbers):
    """The least integer from 1 on that makes each of the numbers an integer, as a factor."""
    if not is_list(numbers, None, None) or not all([is_number(item) for item in numbers]):
        raise BadFraction("numbers")
    return common_under(numbers)
