"""Machines that are made of others."""

from timesfloor.checks import is_integer, is_list
from timesfloor.errors import BadNumber, Misfit, TooMany
from timesfloor.exact import added, multiplied, negated, row_sum
from timesfloor.machines import Machine, want_machine
from timesfloor.pieces import MOST_PIECES, are_pieces
from timesfloor.wants import want_within


def fitting(wide, pieces, part):
    """The machine of pieces that are surely unlike; Misfit(part) if an integer or a number cannot stand."""
    if not are_pieces(pieces, wide):
        raise Misfit(part)
    return Machine(wide, pieces)


def moved_piece(piece, shift):
    """The piece for all points shifted by integers."""
    corner, rows, start = piece
    turned = [negated(number) for number in shift]
    return (
        [low + more for low, more in zip(corner, shift)],
        rows,
        [added(more, row_sum(row, turned, number)) for row, number, more in zip(rows, start, shift)],
    )


def moved(machine, shift):
    """The machine for all points shifted by as many integers as it is wide."""
    want_machine(machine, "machine")
    if not is_list(shift, machine.wide, machine.wide) or not all([is_integer(item) for item in shift]):
        raise BadNumber("shift")
    return fitting(machine.wide, [moved_piece(piece, shift) for piece in machine.pieces], "shift")


def mirrored_piece(piece):
    """The piece for all points turned to their negatives."""
    corner, rows, shift = piece
    return [-low - 1 for low in corner], rows, [negated(number) for number in shift]


def mirrored(machine):
    """The machine for all points turned to their negatives."""
    want_machine(machine, "machine")
    return fitting(machine.wide, [mirrored_piece(piece) for piece in machine.pieces], "machine")


def scaled_pieces(piece, by):
    """The pieces, one beside another, for the numbers of a piece of width 1 taken by times."""
    corner, rows, shift = piece
    return [([by * corner[0] + more], rows, [multiplied(by, shift[0])]) for more in range(by)]


def scaled(machine, by):
    """The machine of width 1 for all numbers taken 2 to 6 times."""
    want_machine(machine, "machine")
    want_within(by, 2, 6, "by")
    if machine.wide != 1:
        raise Misfit("machine")
    if len(machine.pieces) * by > MOST_PIECES:
        raise TooMany("pieces", MOST_PIECES)
    return fitting(1, [part for piece in machine.pieces for part in scaled_pieces(piece, by)], "by")


def joined(one, other):
    """The machine with the pieces of one, and those of the other that it has not."""
    want_machine(one, "one")
    want_machine(other, "other")
    if one.wide != other.wide:
        raise Misfit("other")
    pieces = list(one.pieces) + [piece for piece in other.pieces if piece not in one.pieces]
    if len(pieces) > MOST_PIECES:
        raise TooMany("pieces", MOST_PIECES)
    return Machine(one.wide, pieces)
