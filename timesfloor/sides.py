"""What the tiles of a piece have at each index of their sides.

Carries are reckoned with as integers here, their marks: the carry times the side's under.
"""

from timesfloor.checks import is_list, is_within
from timesfloor.exact import common_under, made, parts_of, times_whole
from timesfloor.numbers import is_number


def dotted(row, point):
    """The sum of the products of two lists of integers, place by place."""
    return sum([factor * number for factor, number in zip(row, point)])


def all_of(choices):
    """All tuples with an item of each of some lists, in their order."""
    found = [()]
    for items in choices:
        found = [(*ahead, item) for ahead in found for item in items]
    return found


class Side:
    """One index of the tiles of a piece: the marks that are carries there, and the integers that are bottoms."""

    def __init__(self, corner, row, shift):
        self.under = common_under(list(row) + [shift])
        self.row = [times_whole(factor, self.under) for factor in row]
        self.shift = times_whole(shift, self.under)
        above = sum([factor for factor in self.row if factor > 0])
        below = -sum([factor for factor in self.row if factor < 0])
        self.least = min(0, 1 - above)
        self.most = self.under + below - 1
        led = self.led_to(corner)
        self.lowest = (led - below) // self.under
        self.highest = -((-led - above) // self.under)

    def many(self):
        """How many carries there are."""
        return self.most - self.least + 1

    def led_to(self, top):
        """Where the piece leads integers, times the under."""
        return dotted(self.row, top) + self.shift

    def gain(self, top, bottom):
        """How much the right mark of a tile is more than its left one."""
        return self.led_to(top) - self.under * bottom

    def many_lefts(self, gain):
        """How many marks stay marks if so much is added: a gain between a top and a bottom that can stand."""
        # Such a gain is never greater than how many carries there are, so this is 0 or more.
        return self.many() - abs(gain)

    def lefts(self, gain):
        """The marks that stay marks if so much is added."""
        return list(range(max(self.least, self.least - gain), min(self.most, self.most - gain) + 1))

    def bottoms(self):
        """The integers that can stand as a bottom."""
        return list(range(self.lowest, self.highest + 1))

    def carry(self, mark):
        """The carry of a mark."""
        return made(mark, self.under)

    def mark(self, value):
        """The mark of any value; None if it is no carry."""
        if not is_number(value):
            return None
        above, under = parts_of(value)
        if self.under % under != 0:
            return None
        mark = above * (self.under // under)
        return mark if self.least <= mark <= self.most else None

    def balances(self, top, left, bottom, right):
        """Whether any values can stand at this index of a tile with a top that can stand."""
        if not is_within(bottom, self.lowest, self.highest):
            return False
        before, behind = self.mark(left), self.mark(right)
        if before is None or behind is None:
            return False
        return before + self.gain(top, bottom) == behind


def sides_of(piece):
    """The sides of a piece, index by index."""
    corner, rows, shift = piece
    return [Side(corner, row, start) for row, start in zip(rows, shift)]


def tops_of(piece):
    """All tops of the tiles of a piece, ascending."""
    return all_of([(low, low + 1) for low in piece[0]])


def carries_at(sides, marks):
    """The carries of marks, side by side."""
    return tuple([side.carry(mark) for side, mark in zip(sides, marks)])


def many_below(sides, top, bottom):
    """How many tiles have a top and a bottom."""
    count = 1
    for side, label in zip(sides, bottom):
        if not side.lowest <= label <= side.highest:
            return 0
        count = count * side.many_lefts(side.gain(top, label))
    return count


def many_with(sides, top):
    """How many tiles have a top."""
    count = 1
    for side in sides:
        count = count * sum([side.many_lefts(side.gain(top, label)) for label in side.bottoms()])
    return count


def tiles_below(number, sides, top, bottoms):
    """The tiles of a piece, told by its number, that have a top and one of some bottoms, by lefts and then rights."""
    found = []
    for bottom in bottoms:
        gains = [side.gain(top, label) for side, label in zip(sides, bottom)]
        for lefts in all_of([side.lefts(gain) for side, gain in zip(sides, gains)]):
            rights = tuple([left + gain for left, gain in zip(lefts, gains)])
            found.append((lefts, rights, bottom))
    return [(number, top, carries_at(sides, lefts), bottom, carries_at(sides, rights))
            for lefts, rights, bottom in sorted(found)]


def tiles_with(number, sides, top):
    """The tiles of a piece that have a top, by lefts and then rights."""
    return tiles_below(number, sides, top, all_of([side.bottoms() for side in sides]))


class Tiling:
    """The pieces of a machine, with their sides as they are asked for."""

    def __init__(self, pieces):
        self.pieces = pieces
        self.known = {}

    def sides(self, number):
        """The sides of a piece, told by its number."""
        if number not in self.known:
            self.known[number] = sides_of(self.pieces[number])
        return self.known[number]

    def has(self, value):
        """Whether any value is a tile."""
        if not is_list(value, 5, 5):
            return False
        number, top, left, bottom, right = value
        if not is_within(number, 0, len(self.pieces) - 1):
            return False
        corner = self.pieces[number][0]
        wide = len(corner)
        if not all([is_list(part, wide, wide) for part in (top, left, bottom, right)]):
            return False
        if not all([is_within(label, low, low + 1) for label, low in zip(top, corner)]):
            return False
        return all([side.balances(top, before, label, behind)
                    for side, before, label, behind in zip(self.sides(number), left, bottom, right)])
