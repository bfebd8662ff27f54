"""The stretches of numbers that go on by a machine of width 1, and its ways."""

from timesfloor.errors import Misfit, TooMany
from timesfloor.exact import added, is_less, made, multiplied, negated, parts_of, whole_part
from timesfloor.machines import want_machine
from timesfloor.runs import through
from timesfloor.spans import leading_into, lines_of, overlap, united, way_goal, way_origin
from timesfloor.wants import want_way, want_within

MOST_STRETCHES = 400
MOST_WAYS = 1000


def want_line(machine):
    """Refuses a machine of width 2."""
    if machine.wide != 1:
        raise Misfit("machine")


def stretch_of(machine, way):
    """The stretch of the numbers that go by a way; None if there are none."""
    want_machine(machine, "machine")
    want_way(way, len(machine.pieces))
    want_line(machine)
    return way_origin(lines_of(machine), way)


def goal_of(machine, way):
    """The stretch of the numbers to which a way leads; None if there are none."""
    want_machine(machine, "machine")
    want_way(way, len(machine.pieces))
    want_line(machine)
    return way_goal(lines_of(machine), way)


def first_living(lines):
    """The stretches of the numbers that make one step."""
    return united([line.square for line in lines])


def still_living(lines, stretches):
    """The stretches of the numbers that make one step more than those of some stretches do."""
    found = leading_into(lines, stretches)
    if len(found) > MOST_STRETCHES:
        raise TooMany("stretches", MOST_STRETCHES)
    return found


def living(machine, steps):
    """The stretches of the numbers that make so many steps, as few as can be."""
    want_machine(machine, "machine")
    want_within(steps, 1, 60, "steps")
    want_line(machine)
    lines = lines_of(machine)
    stretches = first_living(lines)
    for _ in range(steps - 1):
        further = still_living(lines, stretches)
        # Where just the same numbers go on they go on for ever.
        if further == stretches:
            break
        stretches = further
    return stretches


def first_ways(lines):
    """The ways of one piece, each with its goal."""
    return [((number,), line.goal) for number, line in enumerate(lines)]


def longer_ways(lines, ways):
    """The ways of one piece more by which some number goes, each with its goal."""
    found = []
    for way, goal in ways:
        least, most = -whole_part(negated(goal[0])) - 1, whole_part(goal[1])
        for number, line in enumerate(lines):
            if least <= line.square[0] <= most:
                found.append(((*way, number), line.image(overlap(goal, line.square))))
        if len(found) > MOST_WAYS:
            raise TooMany("ways", MOST_WAYS)
    return found


def ways_with_goals(lines, steps):
    """The ways of so many pieces by which some number goes, each with its goal."""
    ways = first_ways(lines)
    for _ in range(steps - 1):
        ways = longer_ways(lines, ways)
    return ways


def ways_of(machine, steps):
    """The ways of so many pieces by which some number goes."""
    want_machine(machine, "machine")
    want_within(steps, 1, 12, "steps")
    want_line(machine)
    return tuple([way for way, _ in ways_with_goals(lines_of(machine), steps)])


def comeback(machine, lines, way):
    """The stretch of the numbers that come back by a way by which some number goes; None if there are none."""
    rows, shift = through(machine, way)
    stretch = way_origin(lines, way)
    rest = added(1, negated(rows[0][0]))
    if rest == 0:
        return stretch if shift[0] == 0 else None
    above, under = parts_of(rest)
    number = multiplied(shift[0], made(under, above))
    if is_less(number, stretch[0]) or is_less(stretch[1], number):
        return None
    return number, number


def comebacks_by(machine, lines, ways):
    """The triples (way, low, high) of the numbers that come back by some ways with their goals."""
    found = []
    for way, _ in ways:
        stretch = comeback(machine, lines, way)
        if stretch is not None:
            found.append((way, stretch[0], stretch[1]))
    return tuple(found)


def comebacks(machine, long):
    """The triples (way, low, high) of the numbers that come back by ways of so many pieces."""
    want_machine(machine, "machine")
    want_within(long, 1, 8, "long")
    want_line(machine)
    lines = lines_of(machine)
    return comebacks_by(machine, lines, ways_with_goals(lines, long))
