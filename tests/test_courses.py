"""Courses of programs [14]."""

from random import Random

from timesfloor import courses, programs
from timesfloor.courses import Ends, Runs, judged_course, stepped
from timesfloor.programs import Program

from tests.examples_programs import COURSES, PROGRAMS
from tests.helpers import Case
from tests.programs_made import CARRY, EMPTY, NO_PROGRAMS, OFF_STANDS, STOP, course_told, next_told, some_programs, some_stand

GREAT = 10 ** 299
OFF_STEPS = (None, True, False, "1", 1.0, (1, 2), [1], -1, 401, GREAT, {})
EACH = Program([("up", 0, 1), ("up", 1, 2), ("down", 0, 3), ("down", 1, 4), ("test", 0, 5, 6), ("test", 1, 6, 0), ("stop",)])


class SteppedTest(Case):

    def test_examples(self):
        names = {**vars(programs), **vars(courses)}
        for text in (PROGRAMS, COURSES):
            self.check_examples(text, names)

    def test_each_kind_of_line(self):
        for stand, told in (((0, 0, 5), (1, 1, 5)), ((0, 1, 5), (1, 2, 5)), ((0, GREAT, 0), (1, GREAT + 1, 0)), ((0, None, 5), (1, None, 5)),
                            ((1, 5, 0), (2, 5, 1)), ((1, 0, GREAT), (2, 0, GREAT + 1)), ((1, 5, None), (2, 5, None)), ((1, None, 0), (2, None, 1)),
                            ((2, 1, 5), (3, 0, 5)), ((2, 0, 5), None), ((2, GREAT, None), (3, GREAT - 1, None)), ((2, None, 0), (3, None, 0)),
                            ((3, 5, 1), (4, 5, 0)), ((3, 5, 0), None), ((3, 0, GREAT), (4, 0, GREAT - 1)), ((3, 0, None), (4, 0, None)),
                            ((4, 0, 5), (5, 0, 5)), ((4, 1, 0), (6, 1, 0)), ((4, None, 0), (6, None, 0)), ((4, GREAT, None), (6, GREAT, None)),
                            ((5, 5, 0), (6, 5, 0)), ((5, 0, 1), (0, 0, 1)), ((5, 0, None), (0, 0, None)), ((5, None, 0), (6, None, 0)),
                            ((6, 0, 0), None), ((6, 5, None), None)):
            for value in (stand, list(stand)):
                self.assert_same(stepped(EACH, value), told)
                self.assert_same(stepped(stand=value, program=EACH), told)

    def test_some_stands(self):
        random = Random(141)
        for program in some_programs(142, 200):
            for _ in range(5):
                stand = some_stand(random, program)
                told = next_told(program, stand)
                self.assert_same(stepped(program, stand), None if isinstance(told, str) else told)

    def test_refuses(self):
        for value in NO_PROGRAMS:
            self.assert_raises(("BadProgram", "program"), stepped, value, None)
        for program in (EMPTY, STOP, EACH):
            for value in OFF_STANDS + ((len(program.lines), 0, 0),):
                self.assert_raises(("BadStand", "stand"), stepped, program, value)
            stepped(program, (len(program.lines) - 1, 0, 0))


class CourseTest(Case):

    def test_some_courses(self):
        random, met = Random(143), {}
        for program in some_programs(144, 400):
            stand = some_stand(random, program)
            for steps in (0, 1, 2, random.randrange(40), 400):
                ending, stands = course_told(program, stand, steps)
                told = judged_course(program, list(stand), steps)
                if ending is None:
                    self.assertIsInstance(told, Runs)
                    self.assert_same((told.word, told.stands, bool(told)), ("runs", stands, True))
                    self.assertEqual(len(stands), steps + 1)
                else:
                    self.assertIsInstance(told, Ends)
                    self.assert_same((told.word, told.ending, told.stands, bool(told)), ("ends", ending, stands, False))
                self.assertTrue(judged_course(steps=steps, stand=stand, program=program) == told)
                met[ending] = met.get(ending, 0) + 1
        self.assertGreater(min(met[ending] for ending in (None, "stop", "fault")), 50)

    def test_ends(self):
        """So many steps as a course has are run; one more ends it."""
        for program, stand, many, ending in ((EMPTY, (0, 1, 7), 3, "stop"), (EMPTY, (2, 0, 0), 0, "stop"), (EMPTY, (1, 0, 9), 0, "fault"),
                                             (STOP, (0, None, None), 0, "stop"), (EMPTY, (0, 150, 0), 301, "stop"),
                                             (EACH, (3, 0, 0), 0, "fault"), (EACH, (2, 1, 0), 1, "fault"), (EACH, (0, 0, 0), 6, "stop"),
                                             (EACH, (0, 0, 1), None, None), (CARRY, (0, 3, 4), None, None)):
            for steps in (0, 1, 2, 3, 5, 6, 7, 300, 301, 302, 399, 400):
                told = judged_course(program, stand, steps)
                ends = many is not None and steps > many
                self.assertEqual((told.word, len(told.stands)), ("ends", many + 1) if ends else ("runs", steps + 1))
                if ends:
                    self.assertEqual(told.ending, ending)

    def test_endless(self):
        told = judged_course(EMPTY, (0, None, 3), 400)
        self.assert_same(told.stands, tuple((at % 2, None, 3) for at in range(401)))
        told = judged_course(Program([("up", 1, 0)]), (0, 0, GREAT), 400)
        self.assert_same(told.stands[-1], (0, 0, GREAT + 400))

    def test_refuses(self):
        for value in NO_PROGRAMS:
            self.assert_raises(("BadProgram", "program"), judged_course, value, None, None)
        for value in OFF_STANDS + ((3, 0, 0),):
            self.assert_raises(("BadStand", "stand"), judged_course, EMPTY, value, None)
        for value in OFF_STEPS:
            self.assert_raises(("BadNumber", "steps"), judged_course, EMPTY, (2, 0, 0), value)
            self.assert_raises(("BadNumber", "steps"), judged_course, steps=value, program=EMPTY, stand=(0, 0, 0))

    def test_papers(self):
        self.assertTrue(Runs([[0, 1, 2]]) == Runs(stands=((0, 1, 2),)))
        self.assertTrue(Ends("stop", [[0, 1, 2]]) == Ends(stands=((0, 1, 2),), ending="stop"))
        self.assertFalse(Ends("stop", [[0, 1, 2]]) == Ends("fault", [[0, 1, 2]]))
