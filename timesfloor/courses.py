"""Courses of programs: from stand to stand, line by line."""

from timesfloor.checks import is_list, is_within
from timesfloor.errors import BadStand
from timesfloor.papers import Denial, Paper, bears, fixed
from timesfloor.programs import want_program
from timesfloor.wants import MOST_STEPS, want_within


class Runs(Paper):
    """A course goes on: its stands, the first one with them."""

    def __init__(self, stands):
        Paper.__init__(self, "runs", stands)
        self.stands = self.parts[0]

    @staticmethod
    def is_one(value):
        """Whether a value is made by calling this class."""
        return isinstance(value, Runs) and bears(value, "Runs")


class Ends(Denial):
    """A course ends: by a stop or a fault, and all its stands."""

    def __init__(self, ending, stands):
        Denial.__init__(self, "ends", ending, stands)
        self.ending = self.parts[0]
        self.stands = self.parts[1]

    @staticmethod
    def is_one(value):
        """Whether a value is made by calling this class."""
        return isinstance(value, Ends) and bears(value, "Ends")


def are_contents(value):
    """Whether a value can be the contents of a box; None is endless."""
    return value is None or is_within(value, 0, None)


def want_stand(program, stand):
    """Refuses what are no program and no stand of it."""
    want_program(program)
    if not is_list(stand, 3, 3) or not is_within(stand[0], 0, len(program.lines) - 1):
        raise BadStand("stand")
    if not are_contents(stand[1]) or not are_contents(stand[2]):
        raise BadStand("stand")


def changed(boxes, box, more):
    """The contents of both boxes, with more in one of them; endless stays endless."""
    return [contents + more if number == box and contents is not None else contents
            for number, contents in enumerate(boxes)]


def next_stand(lines, stand):
    """The stand behind a stand; None where the course ends."""
    number, *boxes = stand
    word, *told = lines[number]
    if word == "stop":
        return None
    is_nought = boxes[told[0]] == 0
    if word == "test":
        return (told[1] if is_nought else told[2], *boxes)
    if word == "down" and is_nought:
        return None
    return tuple([told[1]] + changed(boxes, told[0], 1 if word == "up" else -1))


def stepped(program, stand):
    """The next stand; None where the course ends."""
    want_stand(program, stand)
    return next_stand(program.lines, fixed(stand))


def judged_course(program, stand, steps):
    """The Runs of the stands of so many steps, or the Ends of a course that ends ahead of this."""
    want_stand(program, stand)
    want_within(steps, 0, MOST_STEPS, "steps")
    stands = [fixed(stand)]
    while len(stands) <= steps:
        further = next_stand(program.lines, stands[-1])
        if further is None:
            return Ends("stop" if program.lines[stands[-1][0]] == ("stop",) else "fault", stands)
        stands.append(further)
    return Runs(stands)
