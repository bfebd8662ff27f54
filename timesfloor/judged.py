"""What becomes of a machine of width 1: whether it dies, comes back, stays, or whether this is unsure."""

from timesfloor.machines import want_machine
from timesfloor.papers import Denial, Paper, bears
from timesfloor.spans import lines_of
from timesfloor.stretches import comebacks_by, first_living, first_ways, longer_ways, still_living, want_line
from timesfloor.wants import want_within

MOST_JUDGED = 40
MOST_LONG = 8


class Returns(Paper):
    """A number comes back by a way."""

    def __init__(self, number, way):
        Paper.__init__(self, "returns", number, way)
        self.number = self.parts[0]
        self.way = self.parts[1]

    @staticmethod
    def is_one(value):
        """Whether a value is made by calling this class."""
        return isinstance(value, Returns) and bears(value, "Returns")


class Stays(Paper):
    """Each number of some stretches is led by some piece to a number of them."""

    def __init__(self, stretches):
        Paper.__init__(self, "stays", stretches)
        self.stretches = self.parts[0]

    @staticmethod
    def is_one(value):
        """Whether a value is made by calling this class."""
        return isinstance(value, Stays) and bears(value, "Stays")


class Dies(Denial):
    """No number makes so many steps."""

    def __init__(self, steps):
        Denial.__init__(self, "dies", steps)
        self.steps = self.parts[0]

    @staticmethod
    def is_one(value):
        """Whether a value is made by calling this class."""
        return isinstance(value, Dies) and bears(value, "Dies")


class Unsure(Denial):
    """Nothing is told by so many steps at most, and by ways so long at most."""

    def __init__(self, most, long):
        Denial.__init__(self, "unsure", most, long)
        self.most = self.parts[0]
        self.long = self.parts[1]

    @staticmethod
    def is_one(value):
        """Whether a value is made by calling this class."""
        return isinstance(value, Unsure) and bears(value, "Unsure")


def want_bounds(machine, most, long):
    """Refuses what is no machine of width 1, and what are no bounds to judge it by."""
    want_machine(machine, "machine")
    want_within(most, 1, MOST_JUDGED, "most")
    want_within(long, 1, MOST_LONG, "long")
    want_line(machine)


def told_by_living(lines, most):
    """The Dies, or else the Stays, that the numbers tell that make up to most steps; None if they tell neither."""
    stretches = first_living(lines)
    for steps in range(2, most + 1):
        further = still_living(lines, stretches)
        if not further:
            return Dies(steps)
        if further == stretches:
            return Stays(stretches)
        stretches = further
    return None


def told_by_ways(machine, lines, long):
    """The Returns of the first number that comes back by one of the shortest ways up to so long; None if none does."""
    ways = first_ways(lines)
    for many in range(1, long + 1):
        found = comebacks_by(machine, lines, ways)
        if found:
            way, number, _ = found[0]
            return Returns(number, way)
        # Ways longer than is asked for may be too many, so they are not looked for.
        if many < long:
            ways = longer_ways(lines, ways)
    return None


def judged(machine, most, long):
    """The first that is so of: Dies, Returns, Stays; otherwise Unsure."""
    want_bounds(machine, most, long)
    lines = lines_of(machine)
    told = told_by_living(lines, most)
    if Dies.is_one(told):
        return told
    returns = told_by_ways(machine, lines, long)
    if returns is not None:
        return returns
    return Unsure(most, long) if told is None else told
