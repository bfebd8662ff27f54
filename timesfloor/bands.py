"""Bands: columns of a way that can be laid side by side endlessly."""

from timesfloor.columns import MOST_COLUMNS, counts_down, ends_of, laid_columns, round_in, widths_of
from timesfloor.errors import BadBlock, TooMany
from timesfloor.floors import are_rows, averages_of, closes, first_clash
from timesfloor.machines import want_machine
from timesfloor.papers import Denial, Paper, bears
from timesfloor.sides import Tiling
from timesfloor.tiles import want_few_carries
from timesfloor.wants import MOST_STEPS, want_way


class Band(Paper):
    """A round of columns: each is ahead of the next one, and the last one ahead of the first one."""

    def __init__(self, columns):
        Paper.__init__(self, "band", columns)
        self.columns = self.parts[0]

    @staticmethod
    def is_one(value):
        """Whether a value is made by calling this class."""
        return isinstance(value, Band) and bears(value, "Band")


class Gap(Denial):
    """No block by a way can be so wide."""

    def __init__(self, wide):
        Denial.__init__(self, "gap", wide)
        self.wide = self.parts[0]

    @staticmethod
    def is_one(value):
        """Whether a value is made by calling this class."""
        return isinstance(value, Gap) and bears(value, "Gap")


def few_columns(machine, way):
    """The pair (tiling, counts) of a way that has not too many columns."""
    want_machine(machine, "machine")
    want_way(way, len(machine.pieces))
    tiling = Tiling(machine.pieces)
    for number in sorted(set(way)):
        want_few_carries(tiling.sides(number))
    counts = counts_down(tiling, way)
    if sum(list(counts[0].values())) > MOST_COLUMNS:
        raise TooMany("columns", MOST_COLUMNS)
    return tiling, counts


def columns_of(machine, way):
    """All columns of a way, in the order of their tiles."""
    tiling, counts = few_columns(machine, way)
    return laid_columns(tiling, way, counts)


def judged_band(machine, way):
    """The Band of a round of columns of a way; if there is none, the Gap with the least wide."""
    columns = columns_of(machine, way)
    ends = ends_of(columns)
    widths, entering = widths_of(ends)
    if any([many > 0 for many in entering]):
        return Band([columns[number] for number in round_in(ends, entering)])
    return Gap(max(widths, default=0) + 1)


def is_column_round(machine, columns):
    """Whether a value is a list of columns of tiles of a machine, all of one way, that is a round."""
    if not are_rows(columns, MOST_COLUMNS, MOST_STEPS):
        return False
    rows = list(zip(*columns))
    return first_clash(machine, rows) is None and all([closes(row) for row in rows])


def numbers_of(machine, columns):
    """The averages of a round of columns: of the tops of each row, and of the bottoms of the last one."""
    want_machine(machine, "machine")
    if not is_column_round(machine, columns):
        raise BadBlock("columns")
    return averages_of(list(zip(*columns)))
