"""Programs as machines: the courses of a program are the runs of its machine from the points of stands."""

from timesfloor.courses import judged_course, want_stand
from timesfloor.errors import BadPoint, Misfit, TooMany
from timesfloor.exact import added, made, parts_of, whole_part
from timesfloor.machines import Machine
from timesfloor.pieces import piece_holds
from timesfloor.programs import want_program
from timesfloor.wants import is_point

MOST_CONTENTS = 200
NOUGHT_HEIGHT = 3
# Whether box 0 and whether box 1 is nought, in the order of the pieces of a line.
CASES = ((False, False), (False, True), (True, False), (True, True))


def cases_of(program):
    """For each piece of the machine of a program the pair of the line and of which boxes are nought."""
    found = []
    for number, line in enumerate(program.lines):
        for noughts in CASES:
            if line[0] != "stop" and not (line[0] == "down" and noughts[line[1]]):
                found.append((number, noughts))
    return found


def next_line(line, noughts):
    """The number of the line that comes behind a line."""
    if line[0] == "test" and not noughts[line[1]]:
        return line[3]
    return line[2]


def piece_for(program, case):
    """The piece for a line and for which boxes are nought."""
    number, noughts = case
    line = program.lines[number]
    factors = [1, 1]
    if line[0] == "up":
        factors[line[1]] = (1, 3)
    elif line[0] == "down":
        factors[line[1]] = 3
    corner = (4 * number + 2 * noughts[0], 2 * noughts[1])
    above, under = parts_of(factors[0])
    start = made(4 * next_line(line, noughts) * under - 4 * number * above, under)
    return corner, ((factors[0], 0), (0, factors[1])), (start, 0)


def pieces_for(program):
    """The pieces of the machine of a program."""
    return [piece_for(program, case) for case in cases_of(program)]


def machine_of(program):
    """The machine of a program that has a piece."""
    want_program(program)
    pieces = pieces_for(program)
    if not pieces:
        raise Misfit("program")
    return Machine(2, pieces)


def height_of(contents):
    """The height of contents."""
    if contents is None:
        return 0
    if contents == 0:
        return NOUGHT_HEIGHT
    under = 1
    for _ in range(contents - 1):
        under = under * 3
    return made(1, under)


def point_of(program, stand):
    """The point of a stand whose contents are not too many."""
    want_stand(program, stand)
    line, one, other = stand
    if max(one or 0, other or 0) > MOST_CONTENTS:
        raise TooMany("contents", MOST_CONTENTS)
    return added(4 * line, height_of(one)), height_of(other)


def want_pair(program, point):
    """Refuses what are no program and no point of 2 numbers."""
    want_program(program)
    if not is_point(point, 2, 2):
        raise BadPoint("point")


def line_and_heights(point):
    """The number of the line on which a point lies, and the two heights there."""
    line = whole_part(point[0]) // 4
    return line, added(point[0], -4 * line), point[1]


def contents_at(height):
    """The pair of whether a number is a height, and of its contents."""
    above, under = parts_of(height)
    if above == 0:
        return True, None
    if above == NOUGHT_HEIGHT and under == 1:
        return True, 0
    contents = 1
    while under % 3 == 0:
        under = under // 3
        contents += 1
    return above == under == 1, contents


def stand_of(program, point):
    """The stand whose point this is; None if it is that of none."""
    want_pair(program, point)
    line, height, other_height = line_and_heights(point)
    is_one, one = contents_at(height)
    is_other, other = contents_at(other_height)
    if not 0 <= line < len(program.lines) or not is_one or not is_other:
        return None
    return line, one, other


def way_of(program, stand, steps):
    """The way by which the point of a stand goes, for so many steps or until the course ends."""
    stands = judged_course(program, stand, steps).stands
    numbers = {case: number for number, case in enumerate(cases_of(program))}
    return tuple([numbers[(line, (one == 0, other == 0))] for line, one, other in stands[:-1]])


def contents_like(height):
    """The contents that do alike with a number from 0 to 1, or from 2 to 3."""
    above, under = parts_of(height)
    if above == 0:
        return None
    contents = 0
    while above < 2 * under:
        above = above * 3
        contents += 1
    return contents


def like_stand(program, point):
    """The stand that does alike with a point that a piece of the machine holds."""
    want_pair(program, point)
    if not any([piece_holds(piece, point) for piece in pieces_for(program)]):
        raise Misfit("point")
    line, height, other_height = line_and_heights(point)
    return line, contents_like(height), contents_like(other_height)
