"""Exact reckoning with numbers in their one form; whether they are such is not asked here."""

from math import gcd, lcm


def parts_of(number):
    """What stands above and under in a number; 1 is under an integer."""
    if isinstance(number, int):
        return number, 1
    above, under = number
    return above, under


def made(above, under):
    """The number that is worth above by under, in its one form."""
    common = gcd(above, under)
    if under < 0:
        common = -common
    if common == under:
        return above // common
    return above // common, under // common


def negated(number):
    """The number with the other sign."""
    above, under = parts_of(number)
    return made(-above, under)


def added(one, other):
    """The sum of two numbers."""
    above, under = parts_of(one)
    more, parted = parts_of(other)
    return made(above * parted + more * under, under * parted)


def multiplied(one, other):
    """The product of two numbers."""
    above, under = parts_of(one)
    factor, parted = parts_of(other)
    return made(above * factor, under * parted)


def is_less(one, other):
    """Whether one number is worth less than the other."""
    above, under = parts_of(one)
    bound, parted = parts_of(other)
    return above * parted < bound * under


def whole_part(number):
    """The greatest integer that is not above a number."""
    above, under = parts_of(number)
    return above // under


def times_whole(number, common):
    """A number times a multiple of what is under it: an integer."""
    above, under = parts_of(number)
    return above * (common // under)


def common_under(numbers):
    """The least integer from 1 on that makes each of the numbers an integer, as a factor."""
    common = 1
    for number in numbers:
        common = lcm(common, parts_of(number)[1])
    return common


def row_sum(row, point, start):
    """The sum of the products of a row and a point, place by place, and of a start."""
    total = start
    for factor, number in zip(row, point):
        total = added(total, multiplied(factor, number))
    return total
