"""Checking papers on courses [14]."""

from random import Random

from timesfloor import check_courses, courses, programs
from timesfloor.check_courses import shows_course
from timesfloor.courses import Ends, Runs, judged_course
from timesfloor.papers import Denial, Paper

from tests.examples_programs import CHECK_COURSES, COURSES, PROGRAMS
from tests.helpers import Case, namesakes
from tests.machines_made import nested_lists
from tests.programs_made import EMPTY, NO_PROGRAMS, OFF_STANDS, STOP, course_told, some_programs, some_stand
from tests.test_courses import EACH, OFF_STEPS


class ShowsCourseTest(Case):

    CASES = ((EMPTY, (0, 1, 7), 2), (EMPTY, (0, 1, 7), 9), (EMPTY, (1, 0, None), 1), (EMPTY, (0, None, 0), 3), (STOP, (0, 1, None), 0),
             (STOP, (0, 1, None), 1), (EACH, (0, 1, 1), 12))

    def check(self, told, program, stand, steps, value):
        self.assertIs(shows_course(program, stand, steps, value), told, value.parts if isinstance(value, Paper) else value)

    def test_examples(self):
        names = {**vars(programs), **vars(courses), **vars(check_courses)}
        for text in (PROGRAMS, COURSES, CHECK_COURSES):
            self.check_examples(text, names)

    def test_some_courses(self):
        random = Random(151)
        for program in some_programs(152, 200):
            stand = some_stand(random, program)
            for steps in (0, 1, random.randrange(40)):
                ending, stands = course_told(program, stand, steps)
                for value in (Runs(stands), Ends("stop", stands), Ends("fault", stands)):
                    so = isinstance(value, Runs) if ending is None else isinstance(value, Ends) and value.ending == ending
                    self.check(so, program, stand, steps, value)

    def paper(self, told, stands):
        return Runs(stands) if told else Ends(told.ending, stands)

    def test_right(self):
        for program, stand, steps in self.CASES:
            told = judged_course(program, stand, steps)
            for value in (told, self.paper(told, nested_lists(told.stands)), self.paper(told, list(told.stands))):
                self.check(True, program, stand, steps, value)
                self.assertIs(shows_course(value=value, steps=steps, stand=list(stand), program=program), True)

    def test_other_stands(self):
        for program, stand, steps in self.CASES:
            told = judged_course(program, stand, steps)
            stands = list(told.stands)
            off = [(), None, 0, "stop", {}, stands[0], [stands], stands + stands[-1:], stands[:-1], stands[1:], stands[::-1] + stands, [None],
                   {0: stands[0]}]
            for at in range(len(stands)):
                off += [stands[:at] + stands[at + 1:], stands[:at] + stands[at:at + 1] * 2 + stands[at + 1:], stands[:at] + [None] + stands[at + 1:]]
                for place in range(3):
                    item = stands[at][place]
                    others = [True, False, None, "0", (0,), -1, item if item is None else item + 1]
                    others += [] if item is None else [float(item), [item]]
                    for other in others:
                        if other is not item:
                            bent = (*stands[at][:place], other, *stands[at][place + 1:])
                            off.append(stands[:at] + [bent] + stands[at + 1:])
                off += [stands[:at] + [stands[at][:2]] + stands[at + 1:], stands[:at] + [(*stands[at], 0)] + stands[at + 1:]]
            for value in off:
                self.check(False, program, stand, steps, self.paper(told, value))

    def test_other_endings(self):
        for program, stand, steps in self.CASES:
            told = judged_course(program, stand, steps)
            for ending in ("stop", "fault", "", "Stop", None, True, 0, b"stop", ["stop"], ("fault",)):
                self.check(not told and ending == told.ending, program, stand, steps, Ends(ending, told.stands))
            self.check(bool(told), program, stand, steps, Runs(told.stands))

    def test_other_steps(self):
        told = judged_course(EMPTY, (0, 5, 0), 3)
        for steps in range(8):
            self.check(steps == 3, EMPTY, (0, 5, 0), steps, told)
        told = judged_course(EMPTY, (0, 1, 7), 9)
        for steps in range(12):
            self.check(steps > 3, EMPTY, (0, 1, 7), steps, told)

    def test_other_values(self):
        for program, stand, steps in self.CASES:
            told = judged_course(program, stand, steps)
            for value in (None, True, False, 0, told.word, told.parts, told.stands, [told], (told.word, *told.parts), object(), type(told), Runs,
                          Ends, *namesakes(told), Paper(told.word, *told.parts), Denial(told.word, *told.parts)):
                self.check(False, program, stand, steps, value)

    def test_refuses(self):
        for paper in (None, Runs([[2, 0, 0]]), Ends("stop", [[2, 0, 0]]), 0):
            for value in NO_PROGRAMS:
                self.assert_raises(("BadProgram", "program"), shows_course, value, None, None, paper)
            for value in OFF_STANDS + ((3, 0, 0),):
                self.assert_raises(("BadStand", "stand"), shows_course, EMPTY, value, None, paper)
            for value in OFF_STEPS:
                self.assert_raises(("BadNumber", "steps"), shows_course, value=paper, program=EMPTY, stand=(2, 0, 0), steps=value)
