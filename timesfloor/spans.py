"""Stretches as pieces of width 1 lead them; whether what is passed stands is not asked here.

Ends of stretches may be pairs that are not in their one form: only what is returned as settled is.
"""

from math import gcd

from timesfloor.exact import is_less, made, parts_of


def settled(stretch):
    """The stretch with its ends in their one form."""
    low, high = [parts_of(end) for end in stretch]
    return made(low[0], low[1]), made(high[0], high[1])


def overlap(one, other):
    """What two stretches have in common; None if they have nothing."""
    low = other[0] if is_less(one[0], other[0]) else one[0]
    high = other[1] if is_less(other[1], one[1]) else one[1]
    return None if is_less(high, low) else (low, high)


class Line:
    """A piece of width 1: it leads a number x to (factor x + start) by under, all three integers."""

    def __init__(self, piece):
        corner, rows, shift = piece
        above, below = parts_of(rows[0][0])
        more, parted = parts_of(shift[0])
        common = gcd(above * parted, more * below, below * parted)
        self.factor = above * parted // common
        self.start = more * below // common
        self.under = below * parted // common
        self.square = (corner[0], corner[0] + 1)
        self.goal = self.image(self.square)

    def lead(self, number):
        """Where the piece leads a number."""
        above, under = parts_of(number)
        return made(self.factor * above + self.start * under, self.under * under)

    def image(self, stretch):
        """The stretch onto which the piece leads a stretch of its own."""
        ends = self.lead(stretch[0]), self.lead(stretch[1])
        return ends[::-1] if self.factor < 0 else ends

    def origin(self, number):
        """What the piece leads to a number, if its factor is not 0, perhaps not in its one form."""
        above, under = parts_of(number)
        above, under = self.under * above - self.start * under, self.factor * under
        return (above, under) if under > 0 else (-above, -under)

    def origins(self, stretch):
        """The numbers of the square that the piece leads into a stretch; None if there are none."""
        common = overlap(stretch, self.goal)
        if common is None:
            return None
        if self.factor == 0:
            return self.square
        ends = self.origin(common[0]), self.origin(common[1])
        return ends[::-1] if self.factor < 0 else ends


def lines_of(machine):
    """The pieces of a machine of width 1 as lines."""
    return [Line(piece) for piece in machine.pieces]


def united(stretches):
    """The fewest stretches that have all numbers of some, ascending, and settled."""
    most = max([parts_of(end)[1] for stretch in stretches for end in stretch], default=1)
    # Ends that differ do so by 1 / scale or more, so whole parts of so many times them compare as they do.
    scale = most * most
    marked = []
    for at, (low, high) in enumerate(stretches):
        above, under = parts_of(low)
        bound, parted = parts_of(high)
        marked.append((above * scale // under, bound * scale // parted, at))
    found = []
    reached = None
    for low, high, at in sorted(marked):
        if reached is None or low > reached:
            found.append((stretches[at][0], stretches[at][1]))
            reached = high
        elif high > reached:
            found[-1] = (found[-1][0], stretches[at][1])
            reached = high
    return tuple([settled(stretch) for stretch in found])


def first_reaching(stretches, number):
    """The place of the first one of ascending stretches that does not end below a number."""
    low, high = 0, len(stretches)
    while low < high:
        middle = (low + high) // 2
        if is_less(stretches[middle][1], number):
            low = middle + 1
        else:
            high = middle
    return low


def origins_into(line, stretches):
    """The stretches of numbers that a piece leads into some that are ascending and apart."""
    found = []
    at = first_reaching(stretches, line.goal[0])
    while at < len(stretches) and not is_less(line.goal[1], stretches[at][0]):
        found.append(line.origins(stretches[at]))
        at += 1
    return found


def leading_into(lines, stretches):
    """The numbers that some piece leads into stretches that are ascending and apart: as few stretches as can be."""
    return united([found for line in lines for found in origins_into(line, stretches)])


def way_origin(lines, way):
    """The stretch of the numbers that go by a way; None if there are none."""
    stretch = lines[way[-1]].square
    for number in way[-2::-1]:
        stretch = lines[number].origins(stretch)
        if stretch is None:
            return None
        stretch = settled(stretch)
    return stretch


def way_goal(lines, way):
    """The stretch to which the numbers come that go by a way; None if there are none."""
    stretch = lines[way[0]].square
    for number in way:
        held = overlap(stretch, lines[number].square)
        if held is None:
            return None
        stretch = lines[number].image(held)
    return stretch
