"""Programs as machines [14]."""

from fractions import Fraction
from random import Random

from timesfloor import courses, leads, machines, programs, runs
from timesfloor.courses import judged_course, stepped
from timesfloor.floors import is_round
from timesfloor.leads import like_stand, machine_of, point_of, stand_of, way_of
from timesfloor.machines import Machine, nexts
from timesfloor.programs import Program
from timesfloor.rounds import round_at
from timesfloor.runs import Goes, first_run, judged_run

from tests.examples_programs import COURSES, LEADS, PROGRAMS
from tests.helpers import Case
from tests.machines_made import formed, is_held, nested_lists, worth
from tests.programs_made import CARRY, EMPTY, NO_PROGRAMS, OFF_STANDS, STOP, course_told, some_programs, some_stand
from tests.test_courses import EACH, OFF_STEPS
from tests.test_runs import OFF_POINTS

FULL = Program([("test", number % 2, number, 14 - number) for number in range(15)])
STOPS = Program([("stop",)] * 15)


def pieces_told(program):
    """The pieces of the machine of a program, case by case."""
    found = []
    for number, line in enumerate(program.lines):
        for nought in ((0, 0), (0, 1), (1, 0), (1, 1)):
            if line[0] == "stop" or line[0] == "down" and nought[line[1]]:
                continue
            following = line[3] if line[0] == "test" and not nought[line[1]] else line[2]
            factor = {"up": Fraction(1, 3), "down": Fraction(3), "test": Fraction(1)}[line[0]]
            q, p = (factor, 1) if line[1] == 0 else (1, factor)
            found.append(((4 * number + 2 * nought[0], 2 * nought[1]), ((formed(q), 0), (0, formed(p))),
                          (formed(4 * following - 4 * number * q), 0)))
    return tuple(found)


def height(contents):
    return Fraction(0) if contents is None else Fraction(3) ** (1 - contents)


def point_told(stand):
    return formed(4 * stand[0] + height(stand[1])), formed(height(stand[2]))


def contents_told(value):
    """The contents whose stretch has a height; None for 0, and "-" if none has it."""
    if value == 0:
        return None
    fitting = [a for a in range(130) if Fraction(2, 3 ** a) <= value < Fraction(6, 3 ** a)]
    return fitting[0] if len(fitting) == 1 else "-"


def small_stand(random, program):
    line, one, other = some_stand(random, program)
    return line, one and min(one, 190), other and min(other, 190)


class MachineOfTest(Case):

    def test_examples(self):
        names = {**vars(machines), **vars(runs), **vars(programs), **vars(courses), **vars(leads)}
        for text in (PROGRAMS, COURSES, LEADS):
            self.check_examples(text, names)

    def test_each_kind_of_line(self):
        for line, told in ((("up", 0, 1), "4 0 1/3 0 0 1 8/3 0 / 4 2 1/3 0 0 1 8/3 0 / 6 0 1/3 0 0 1 8/3 0 / 6 2 1/3 0 0 1 8/3 0"),
                           (("up", 1, 0), "4 0 1 0 0 1/3 -4 0 / 4 2 1 0 0 1/3 -4 0 / 6 0 1 0 0 1/3 -4 0 / 6 2 1 0 0 1/3 -4 0"),
                           (("down", 0, 0), "4 0 3 0 0 1 -12 0 / 4 2 3 0 0 1 -12 0"), (("down", 1, 1), "4 0 1 0 0 3 0 0 / 6 0 1 0 0 3 0 0"),
                           (("test", 0, 0, 1), "4 0 1 0 0 1 0 0 / 4 2 1 0 0 1 0 0 / 6 0 1 0 0 1 -4 0 / 6 2 1 0 0 1 -4 0"),
                           (("test", 1, 0, 1), "4 0 1 0 0 1 0 0 / 4 2 1 0 0 1 -4 0 / 6 0 1 0 0 1 0 0 / 6 2 1 0 0 1 -4 0")):
            self.assertEqual(str(machine_of(Program([("stop",), line]))), f"2 / {told}")
            self.assertEqual(str(machine_of(program=Program([["stop"], list(line)]))), f"2 / {told}")

    def test_some_programs(self):
        many = set()
        for program in some_programs(161, 300) + [EACH, CARRY, FULL]:
            told = pieces_told(program)
            if not told:
                self.assert_raises(("Misfit", "program"), machine_of, program)
                continue
            machine = machine_of(program)
            self.assertIsInstance(machine, Machine)
            self.assert_same((machine.wide, machine.pieces), (2, told))
            many.add(len(told))
            # Two squares have no common point: in one of the two numbers they are more than one apart.
            corners = [corner for corner, _, _ in told]
            for at, (x, y) in enumerate(corners):
                for u, v in corners[:at]:
                    self.assertTrue(abs(x - u) > 1 or abs(y - v) > 1)
        self.assertIn(60, many)

    def test_sixty_pieces(self):
        self.assertEqual(len(machine_of(FULL).pieces), 60)
        self.assertEqual(len(machine_of(Program([("down", 0, 14)] * 15)).pieces), 30)
        self.assertEqual(machine_of(Program([("up", 0, 0)] * 15)).pieces[59], ((58, 2), (((1, 3), 0), (0, 1)), ((-56, 3), 0)))
        self.assertEqual(machine_of(Program([("down", 0, 0)] * 15)).pieces[28], ((56, 0), ((3, 0), (0, 1)), (-168, 0)))

    def test_refuses(self):
        for value in NO_PROGRAMS:
            self.assert_raises(("BadProgram", "program"), machine_of, value)
        for program in (STOP, STOPS):
            self.assert_raises(("Misfit", "program"), machine_of, program)


class PointsTest(Case):

    CONTENTS = (0, 1, 2, 3, 10, 199, 200, None)

    def test_there_and_back(self):
        for program in (EMPTY, STOP, STOPS, EACH, FULL):
            for line in range(len(program.lines)):
                for one in self.CONTENTS:
                    for other in self.CONTENTS:
                        stand = (line, one, other)
                        point = point_of(program, list(stand))
                        self.assert_same(point, point_told(stand))
                        self.assert_same(point_of(stand=stand, program=program), point)
                        self.assert_same(stand_of(program, nested_lists(point)), stand)
                        self.assert_same(stand_of(point=point, program=program), stand)

    def test_contents(self):
        for stand in ((0, 201, 0), (0, 0, 201), (0, None, 201), (0, 201, None), (0, 10 ** 299, 0), (2, 1000, 1000)):
            self.assert_raises(("TooMany", "contents", 200), point_of, EMPTY, stand)
        # A stand may have more of them than its point is told for.
        for contents in (201, 400, 620):
            self.assert_same(stand_of(EMPTY, point_told((1, contents, 3))), (1, contents, 3))
            self.assert_same(stand_of(EMPTY, point_told((1, 3, contents))), (1, 3, contents))

    def test_no_stands(self):
        heights = [Fraction(0), Fraction(3), Fraction(1), Fraction(1, 3), Fraction(1, 3 ** 200)]
        off = [Fraction(2), Fraction(1, 2), Fraction(2, 3), Fraction(5, 2), Fraction(4, 3), Fraction(-1, 3), Fraction(-3), Fraction(7, 2),
               Fraction(1, 6), Fraction(2, 9), Fraction(1, 3 ** 200 + 1), Fraction(3 ** 200 - 1, 3 ** 200), Fraction(2, 3 ** 200), Fraction(9),
               Fraction(10 ** 20 + 1, 10 ** 20), Fraction(29, 10), Fraction(10), Fraction(1, 300), Fraction(-1), Fraction(4), Fraction(6),
               Fraction(3, 2), Fraction(3, 4), Fraction(3, 10), Fraction(-3, 2)]
        for line in (0, 1, 2):
            for good in heights:
                self.assertIsNotNone(stand_of(EMPTY, (formed(4 * line + good), formed(good))))
                for bad in off:
                    self.assertIsNone(stand_of(EMPTY, (formed(4 * line + good), formed(bad))))
                    # Four more, or less, lead to other lines.
                    if 0 < bad < 3 and bad not in heights:
                        self.assertIsNone(stand_of(EMPTY, (formed(4 * line + bad), formed(good))))
        for x in (-4, -1, -3, (-11, 3), 12, 13, 15, (37, 3), 16, -400, 10 ** 200, (1, 10 ** 200), 2, 6, 10, (5, 2)):
            for y in (0, 1, 3, (1, 3)):
                self.assertIsNone(stand_of(EMPTY, (x, y)))
        self.assert_same(stand_of(EMPTY, (4, 0)), (1, None, None))
        self.assert_same(stand_of(EMPTY, (11, 3)), (2, 0, 0))
        self.assert_same(stand_of(STOP, (3, 1)), (0, 0, 1))
        self.assertIsNone(stand_of(STOP, (4, 1)))

    def test_is_led_on(self):
        """The point of a stand is held by just one piece, which leads it to that of the next stand; by none at an end."""
        random = Random(162)
        for program in some_programs(163, 150):
            for _ in range(6):
                stand = small_stand(random, program)
                following = stepped(program, stand)
                if not pieces_told(program):
                    self.assertIsNone(following)
                    continue
                told = nexts(machine_of(program), point_of(program, stand))
                self.assertEqual([goal for _, goal in told], [] if following is None else [point_of(program, following)])

    def test_refuses(self):
        for function in (point_of, stand_of, like_stand):
            for value in NO_PROGRAMS:
                self.assert_raises(("BadProgram", "program"), function, value, None)
        for value in OFF_STANDS + ((3, 0, 0), (3, 201, 0)):
            self.assert_raises(("BadStand", "stand"), point_of, EMPTY, value)
        for function in (stand_of, like_stand):
            for value in OFF_POINTS + ([1], [(1, 2)], [1, 1, 1]):
                self.assert_raises(("BadPoint", "point"), function, EMPTY, value)
                self.assert_raises(("BadPoint", "point"), function, point=value, program=STOP)


class WayOfTest(Case):

    def test_some_courses(self):
        random, met = Random(164), {}
        for program in some_programs(165, 300) + [CARRY, EMPTY, EACH] * 5:
            stand = small_stand(random, program)
            for steps in (0, 1, random.randrange(60)):
                ending, stands = course_told(program, stand, steps)
                way = way_of(program, list(stand), steps)
                self.assertIsInstance(way, tuple)
                self.assertEqual(len(way), len(stands) - 1)
                self.assert_same(way_of(steps=steps, stand=stand, program=program), way)
                points = tuple(map(point_told, stands))
                if way:
                    machine = machine_of(program)
                    self.assertTrue(judged_run(machine, points[0], way) == Goes(points))
                    self.assert_same(first_run(machine, points[0], steps), (way, points))
                if ending is not None and pieces_told(program):
                    self.assert_same(nexts(machine_of(program), points[-1]), ())
                met[ending, bool(way)] = met.get((ending, bool(way)), 0) + 1
        self.assertGreater(min(met[ending, True] for ending in (None, "stop", "fault")), 15)
        self.assertGreater(min(met[ending, False] for ending in (None, "stop", "fault")), 15)

    def test_steps(self):
        for steps in (0, 1, 399, 400):
            self.assertEqual(len(way_of(CARRY, (0, 3, 4), steps)), steps)
            self.assert_same(way_of(EMPTY, (0, None, None), steps), ((0, 4) * 200)[:steps])
            self.assert_same(way_of(STOP, (0, 0, 0), steps), ())
            self.assert_same(way_of(EMPTY, (1, 0, 0), steps), ())
        self.assertEqual(len(way_of(EMPTY, (0, 199, 7), 400)), 399)
        self.assertEqual(len(way_of(EMPTY, (0, 10 ** 299, 7), 400)), 400)

    def test_refuses(self):
        for value in NO_PROGRAMS:
            self.assert_raises(("BadProgram", "program"), way_of, value, None, None)
        for value in OFF_STANDS + ((3, 0, 0),):
            self.assert_raises(("BadStand", "stand"), way_of, EMPTY, value, None)
        for value in OFF_STEPS:
            self.assert_raises(("BadNumber", "steps"), way_of, EMPTY, (2, 0, 0), value)
            self.assert_raises(("BadNumber", "steps"), way_of, steps=value, program=STOP, stand=(0, 0, 0))


class LikeStandTest(Case):

    def heights(self):
        """Numbers from 0 to 1 and from 2 to 3, with the contents of their stretches."""
        yield Fraction(0), None
        yield Fraction(2), 0
        yield Fraction(3), 0
        yield Fraction(9, 4), 0
        yield Fraction(1), 1
        for contents in (1, 2, 3, 10, 99, 100, 101):
            low, high = Fraction(2, 3 ** contents), min(Fraction(1), 2 * Fraction(3) ** (1 - contents))
            tiny = Fraction(1, 10 ** 70)
            yield low, contents
            yield low + tiny * low, contents
            yield Fraction(3) ** (1 - contents), contents
            yield (low + high) / 2, contents
            if contents > 1:
                yield high - tiny * high, contents
                yield high, contents - 1
            yield low - tiny * low, contents + 1

    def test_heights(self):
        program = Program([("test", 0, 0, 0), ("up", 1, 2), ("stop",), ("down", 0, 0), ("down", 1, 0)])
        for value, contents in self.heights():
            self.assertEqual(contents_told(value), contents)
            for line in (0, 1):
                for other, beside in ((Fraction(0), None), (Fraction(3), 0), (Fraction(1, 7), 3)):
                    point = (formed(4 * line + value), formed(other))
                    self.assert_same(like_stand(program, nested_lists(point)), (line, contents, beside))
                    self.assert_same(like_stand(point=point, program=program), (line, contents, beside))
                    self.assert_same(like_stand(program, (formed(4 * line + other), formed(value))), (line, beside, contents))
            for line, places in ((2, ()), (3, (1,)), (4, (0,))):
                for place in (0, 1):
                    parts = [Fraction(1), Fraction(1)]
                    parts[place] = value
                    point = (formed(4 * line + parts[0]), formed(parts[1]))
                    if line == 2 or (value >= 2 and place == line - 3):
                        self.assert_raises(("Misfit", "point"), like_stand, program, point)
                    else:
                        self.assertEqual(like_stand(program, point)[place + 1], contents)

    def test_powers_of_thirds(self):
        for contents in range(101):
            stand = (0, contents, None)
            self.assert_same(like_stand(EMPTY, point_told(stand)), stand)
            self.assert_same(like_stand(EMPTY, point_told((0, None, contents))), (0, None, contents))

    def test_points_that_no_piece_holds(self):
        for point in (((3, 2), 0), (0, (3, 2)), (-1, 0), ((-1, 2), 0), (0, -1), (0, (-1, 2)), (0, 4), (8, 0), (9, 1), (11, 3), (12, 0), (6, 0),
                      (7, 0), (6, 3), (4, (5, 3)), ((19, 5), 0), (0, (31, 10)), (10 ** 200, 0), (0, (10 ** 200 + 1, 10 ** 200)), (13, 0)):
            self.assertFalse(any(is_held(piece, point) for piece in pieces_told(EMPTY)))
            self.assert_raises(("Misfit", "point"), like_stand, EMPTY, point)
        for point in ((0, 0), (3, 3), (4, 0)):
            for program in (STOP, STOPS):
                self.assert_raises(("Misfit", "point"), like_stand, program, point)

    def test_go_by_the_same_lines(self):
        """As long as a point goes on, the course of the stand that is told goes by the same lines and pieces."""
        random, met = Random(166), 0
        for program in some_programs(167, 200) + [CARRY, EMPTY, EACH] * 20:
            for _ in range(8):
                parts = [random.choice((Fraction(0), Fraction(random.randrange(1, 82), 81), Fraction(random.randrange(1, 28), 27),
                                        2 + Fraction(random.randrange(28), 27), Fraction(3), Fraction(1, random.randrange(1, 99))))
                         for _ in range(2)]
                line = random.randrange(len(program.lines))
                point = (formed(4 * line + parts[0]), formed(parts[1]))
                if not any(is_held(piece, point) for piece in pieces_told(program)):
                    self.assert_raises(("Misfit", "point"), like_stand, program, point)
                    continue
                stand = like_stand(program, point)
                self.assert_same(stand, (line, *map(contents_told, parts)))
                way, points = first_run(machine_of(program), point, 50)
                self.assert_same(way_of(program, stand, 50)[:len(way)], way)
                lines = [worth(here[0]) // 4 for here in points[:-1]]
                stands = judged_course(program, stand, 50).stands
                self.assertEqual(lines, [there[0] for there in stands[:len(lines)]])
                met += len(way) > 3
        self.assertGreater(met, 100)


class ComeAgainTest(Case):

    def test_stands_that_come_again(self):
        """Their points come back by the way, and blocks of their rows come round."""
        swing = Program([("up", 0, 1), ("test", 1, 2, 2), ("down", 0, 0)])
        for program, stand, steps in ((swing, (0, 0, 0), 3), (swing, (1, 1, 3), 6), (swing, (0, 3, None), 3), (EMPTY, (0, None, 2), 2),
                                      (Program([("test", 0, 0, 0)]), (0, 5, 4), 1), (CARRY, (0, 2, 1), None), (CARRY, (3, 0, 2), None)):
            if steps is None:
                stands = judged_course(program, stand, 200).stands
                again = [at for at, there in enumerate(stands) if there == stands[20]]
                stand, steps = stands[20], again[1] - again[0]
            self.assert_same(judged_course(program, stand, steps).stands[-1], stand)
            machine, way, point = machine_of(program), way_of(program, stand, steps), point_of(program, stand)
            run = judged_run(machine, point, way)
            self.assert_same(run.points[-1], point)
            told = round_at(machine, point, way)
            self.assertIs(is_round(machine, told.block), True)
            self.assertEqual(len(told.block), steps)
