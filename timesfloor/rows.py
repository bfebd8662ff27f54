"""The rows of points: at each place a label for each number."""

from timesfloor.checks import is_integer, is_list
from timesfloor.errors import BadNumber, BadPoint
from timesfloor.exact import common_under, is_less, made, parts_of
from timesfloor.wants import is_point, want_integer, want_within

MOST_LABELS = 2000


def want_free_point(point):
    """Refuses what is no point, of one number or of two."""
    if not is_point(point, 1, 2):
        raise BadPoint("point")


def wholes_of(number, first, many):
    """The whole parts of a number taken first times, and so on, so many."""
    above, under = parts_of(number)
    return [place * above // under for place in range(first, first + many)]


def labels_at(number, first, many):
    """The labels of a number at many places from the first one on."""
    wholes = wholes_of(number, first - 1, many + 1)
    return [whole - before for before, whole in zip(wholes, wholes[1:])]


def label_sum(number, first, many):
    """The sum of the labels of a number at many places: what lies between the ends falls away."""
    above, under = parts_of(number)
    return (first + many - 1) * above // under - (first - 1) * above // under


def label_at(point, place):
    """The labels of a point at a place."""
    want_free_point(point)
    want_integer(place, "place")
    return tuple([label_sum(number, place, 1) for number in point])


def labels_of(point, first, many):
    """The labels of a point at many places, one behind another."""
    want_free_point(point)
    want_integer(first, "first")
    want_within(many, 0, MOST_LABELS, "many")
    rows = [labels_at(number, first, many) for number in point]
    return tuple(zip(*rows))


def sum_of(point, first, many):
    """For each number of a point the sum of its labels at many places."""
    want_free_point(point)
    want_integer(first, "first")
    want_within(many, 0, None, "many")
    return tuple([label_sum(number, first, many) for number in point])


def comes_again(point):
    """The least number of places after which the row of a point comes again."""
    want_free_point(point)
    return common_under(point)


def told_back(labels):
    """The pair (low, high) of the numbers, low or more and below high, whose rows begin with these labels; or None."""
    if not is_list(labels, 1, MOST_LABELS) or not all([is_integer(label) for label in labels]):
        raise BadNumber("labels")
    total = 0
    low = high = None
    for many, label in enumerate(labels, start=1):
        total = total + label
        if low is None or is_less(low, (total, many)):
            low = (total, many)
        if high is None or is_less((total + 1, many), high):
            high = (total + 1, many)
    if not is_less(low, high):
        return None
    return made(low[0], low[1]), made(high[0], high[1])
