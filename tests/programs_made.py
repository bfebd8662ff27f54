"""Programs, stands and courses for the tests, made without the package's own reckoning."""

from random import Random

from timesfloor.programs import Program

EMPTY = Program([("test", 0, 2, 1), ("down", 0, 0), ("stop",)])
# Takes box 0 to box 1, and back again, for ever.
CARRY = Program([("test", 0, 3, 1), ("down", 0, 2), ("up", 1, 0), ("test", 1, 0, 4), ("down", 1, 5), ("up", 0, 3)])
STOP = Program([("stop",)])
NO_PROGRAMS = (None, "stop", 1, True, [], (("stop",),), ["stop"], Program)
OFF_STANDS = (None, True, 0, "000", "0", (), [], (0, 0), (0, 0, 0, 0), (True, 0, 0), (0, True, 0), (0, 0, False), (-1, 0, 0),
              (0, -1, 0), (0, 0, -1), (None, 0, 0), ("0", 0, 0), (0, "0", 0), (0, 0, "-"), (0, 0.0, 0), (0, (1, 2), 0),
              (0, 0, [0]), ([0], 0, 0), {0: 0, 1: 0, 2: 0}, {0, 1, 2}, range(3), (10 ** 299, 0, 0), (0, 0, ()))


def some_line(random, many):
    line, other = random.randrange(many), random.randrange(many)
    word = random.choice(("up", "down", "down", "test", "test", "stop" if random.random() < 0.4 else "up"))
    return {"up": ("up", random.randrange(2), line), "down": ("down", random.randrange(2), line),
            "test": ("test", random.randrange(2), line, other), "stop": ("stop",)}[word]


def some_programs(seed, count):
    random = Random(seed)
    sizes = [random.choice((1, 2, 3, 4, 6, 15)) for _ in range(count)]
    return [Program([some_line(random, many) for _ in range(many)]) for many in sizes]


def some_stand(random, program):
    contents = (0, 0, 1, 1, 2, 3, 7, None, 10 ** 40)
    return random.randrange(len(program.lines)), random.choice(contents), random.choice(contents)


def next_told(program, stand):
    """The next stand, or how the course ends."""
    number, *boxes = stand
    line = program.lines[number]
    if line == ("stop",):
        return "stop"
    worth = boxes[line[1]]
    if line[0] == "test":
        return (line[2] if worth == 0 else line[3], *boxes)
    if line[0] == "down" and worth == 0:
        return "fault"
    if worth is not None:
        boxes[line[1]] = worth + 1 if line[0] == "up" else worth - 1
    return (line[2], *boxes)


def course_told(program, stand, steps):
    """The pair of how a course ends, None if it does not, and its stands."""
    stands = [stand]
    for _ in range(steps):
        following = next_told(program, stands[-1])
        if isinstance(following, str):
            return following, tuple(stands)
        stands.append(following)
    return None, tuple(stands)
