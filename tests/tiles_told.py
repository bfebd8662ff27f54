"""Carries, tiles and floors by their definition, laid without the package's own reckoning; for small machines."""

from fractions import Fraction
from itertools import product
from math import ceil, floor, lcm

from tests.machines_made import formed, where_led, worth


def frame(piece, j):
    """P, N, d, and where the corner is led, at an index."""
    corner, rows, shift = piece
    row = [worth(number) for number in rows[j]]
    under = lcm(*[number.denominator for number in row], worth(shift[j]).denominator)
    above, below = sum(number for number in row if number > 0), -sum(number for number in row if number < 0)
    return above, below, under, worth(where_led(piece, corner)[j])


def carries_told(piece):
    told = []
    for j in range(len(piece[0])):
        above, below, under, _ = frame(piece, j)
        marks = range(floor(-above * under) - 1, ceil((1 + below) * under) + 2)
        told.append([Fraction(mark, under) for mark in marks
                     if -above < Fraction(mark, under) < 1 + below or (above == 0 and mark == 0)])
    return told


def sides_told(piece, j, top, carries):
    """All (left, right, bottom) at an index, below a top."""
    above, below, _, led = frame(piece, j)
    lowest, highest = floor(led - below), ceil(led + above)
    start = sum(worth(factor) * label for factor, label in zip(piece[1][j], top)) + worth(piece[2][j])
    for left, right in product(carries, carries):
        bottom = start + left - right
        if bottom.denominator == 1 and lowest <= bottom <= highest:
            yield left, right, int(bottom)


def tiles_told(number, piece):
    """The tiles of a piece in the order of tiles_of."""
    carries = carries_told(piece)
    found = []
    for top in product(*[(low, low + 1) for low in piece[0]]):
        below = [list(sides_told(piece, j, top, carries[j])) for j in range(len(top))]
        found += [(top, tuple(zip(*parts))) for parts in product(*below)]
    found = sorted(found, key=lambda tile: (tile[0], tile[1][0], tile[1][1]))
    return tuple((number, top, tuple(map(formed, lefts)), bottoms, tuple(map(formed, rights)))
                 for top, (lefts, rights, bottoms) in found)


def tile_told(number, piece, point, place):
    """The tile at a place of the row of a point."""
    goal = where_led(piece, point)

    def rest(value, times):
        return worth(value) * times - floor(worth(value) * times)

    def labels(values):
        return tuple(floor(worth(value) * place) - floor(worth(value) * (place - 1)) for value in values)

    def carries(times):
        return tuple(formed(rest(end, times) - sum(worth(factor) * rest(start, times)
                                                   for factor, start in zip(row, point)))
                     for end, row in zip(goal, piece[1]))
    return number, labels(point), carries(place - 1), labels(goal), carries(place)


def within(random, piece):
    """A point in the square of a piece, often at its edge."""
    return tuple(formed(low + Fraction(random.randrange(under + 1), under))
                 for low, under in ((low, random.choice((1, 2, 3, 7, 10))) for low in piece[0]))
