"""Checking papers on rounds."""

from timesfloor.floors import are_rows, comes_round, first_clash
from timesfloor.rounds import Round, Straight, judged_round, want_rounding
from timesfloor.sameness import is_same


def is_round_by(machine, way, wide, block):
    """Whether any value is a block so wide by a way that comes round."""
    if not are_rows(block, len(way), wide) or len(block) != len(way) or len(block[0]) != wide:
        return False
    if first_clash(machine, block) is not None or not comes_round(block):
        return False
    return all([row[0][0] == number for row, number in zip(block, way)])


def shows_round(machine, way, wide, value):
    """Whether any value is a right paper on whether a block so wide by a way comes round."""
    want_rounding(machine, way, wide)
    if Round.is_one(value):
        return is_same(value.wide, wide) and is_round_by(machine, way, wide, value.block)
    if not Straight.is_one(value) or not is_same(value.wide, wide):
        return False
    return Straight.is_one(judged_round(machine, way, wide))
