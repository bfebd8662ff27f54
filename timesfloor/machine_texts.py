"""The texts of machines: what they are made of, and reading them."""

from timesfloor.errors import BadText
from timesfloor.number_texts import number_text
from timesfloor.pieces import MOST_CORNER, MOST_PIECES, numbers_in


def piece_text(piece):
    """The items of a piece."""
    return " ".join([number_text(number) for number in numbers_in(piece)])


def take_smalls(items, many):
    """Takes so many small numbers."""
    return tuple([items.take_small() for _ in range(many)])


def take_piece(items, wide):
    """Takes the items of a piece, behind its sign."""
    corner = tuple([items.take_integer(-MOST_CORNER, MOST_CORNER) for _ in range(wide)])
    rows = tuple([take_smalls(items, wide) for _ in range(wide)])
    return corner, rows, take_smalls(items, wide)


def take_machine(items):
    """Takes all items that are left, as those of a machine: how wide it is, and its pieces."""
    wide = items.take_integer(1, 2)
    pieces = []
    while not pieces or items.has_more():
        if len(pieces) == MOST_PIECES:
            raise BadText(0, items.at)
        items.take_sign("/")
        piece = take_piece(items, wide)
        # Only a whole piece shows that it is told twice, so its last item is the one that is off.
        items.want_whole(piece not in pieces)
        pieces.append(piece)
    return wide, pieces
