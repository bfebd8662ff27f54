"""Scripts: lines that a new desk is told one behind another."""

from timesfloor.checks import is_list
from timesfloor.desks import Desk
from timesfloor.errors import BadLine, BadText, TileError


def answered(desk, number, line):
    """The answer of a desk to a line, told with its number."""
    try:
        return desk.tell(line)
    except TileError as error:
        raise BadLine(number, error) from error


def played(lines):
    """The answers of a new desk to some lines."""
    if not is_list(lines, None, None) or not all([isinstance(line, str) for line in lines]):
        raise BadText(0, 0)
    desk = Desk()
    return tuple([answered(desk, number, line) for number, line in enumerate(lines)])
