"""Checking papers on bands."""

from timesfloor.bands import Band, Gap, few_columns, is_column_round, judged_band
from timesfloor.checks import is_within

MOST_WIDE = 10000


def is_band_by(machine, way, columns):
    """Whether any value is a round of columns of a way."""
    if not is_column_round(machine, columns) or len(columns[0]) != len(way):
        return False
    # All tiles of a row are of one piece, so the first column tells the way of all of them.
    return all([tile[0] == number for tile, number in zip(columns[0], way)])


def shows_band(machine, way, value):
    """Whether any value is a right paper on whether rows by a way can be laid endlessly."""
    few_columns(machine, way)
    if Band.is_one(value):
        return is_band_by(machine, way, value.columns)
    if not Gap.is_one(value) or not is_within(value.wide, 1, MOST_WIDE):
        return False
    told = judged_band(machine, way)
    return Gap.is_one(told) and told.wide <= value.wide
