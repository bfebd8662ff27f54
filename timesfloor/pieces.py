"""Pieces of machines: triples (corner, rows, shift); whether the points fit them is not asked here."""

from timesfloor.checks import is_list, is_within
from timesfloor.exact import parts_of, row_sum
from timesfloor.numbers import is_small
from timesfloor.papers import fixed

MOST_CORNER = 1000
MOST_PIECES = 60


def are_small(value, many):
    """Whether a value is a list of so many small numbers."""
    return is_list(value, many, many) and all([is_small(item) for item in value])


def is_corner(value, wide):
    """Whether a value can be the corner of a piece."""
    return is_list(value, wide, wide) and all([is_within(item, -MOST_CORNER, MOST_CORNER) for item in value])


def is_piece(value, wide):
    """Whether a value is a piece of so wide a machine."""
    if not is_list(value, 3, 3):
        return False
    corner, rows, shift = value
    if not is_corner(corner, wide) or not is_list(rows, wide, wide) or not are_small(shift, wide):
        return False
    return all([are_small(row, wide) for row in rows])


def are_pieces(value, wide):
    """Whether a value is a list of as many unlike pieces as a machine can have."""
    if not is_list(value, 1, MOST_PIECES) or not all([is_piece(item, wide) for item in value]):
        return False
    return len(set(fixed(value))) == len(value)


def numbers_in(piece):
    """The numbers of a piece, in the order of its text."""
    corner, rows, shift = piece
    return list(corner) + [number for row in rows for number in row] + list(shift)


def lies_from(number, low):
    """Whether a number lies from an integer to one more."""
    above, under = parts_of(number)
    return low * under <= above <= (low + 1) * under


def piece_holds(piece, point):
    """Whether a point lies in the square of a piece."""
    return all([lies_from(number, low) for number, low in zip(point, piece[0])])


def piece_leads(piece, point):
    """Where a piece leads a point, whether or not it holds it."""
    _, rows, shift = piece
    return tuple([row_sum(row, point, start) for row, start in zip(rows, shift)])
