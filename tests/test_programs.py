"""Programs and their texts [14]."""

from random import Random

from timesfloor import programs
from timesfloor.programs import Program

from tests.examples_programs import PROGRAMS
from tests.helpers import Case
from tests.machines_made import nested_lists
from tests.programs_made import CARRY, EMPTY, STOP, some_programs

OFF_LISTS = (None, 0, True, "stop", b"stop", {}, {0: ("stop",)}, {"stop"}, (), [], [()], [[]], ("stop",), ["stop"], [None], [True], range(1),
             object(), EMPTY, [EMPTY], [("stop",)] * 16, [("stop",), None], [("stop",), ()], [("stop",), "stop"], [("stop",)] * 100)
OFF_LINES = (("up",), ("up", 0), ("up", 0, 0, 0), ("down",), ("down", 0), ("down", 0, 0, 0), ("test",), ("test", 0), ("test", 0, 0),
             ("test", 0, 0, 0, 0), ("stop", 0), ("stop", "stop"), ("stop", None), ("Up", 0, 0), ("UP", 0, 0), ("up ", 0, 0), ("", 0, 0), ("halt",),
             (0, 0, 0), (None, 0, 0), (True, 0, 0), (b"up", 0, 0), (["up"], 0, 0), ({}, 0, 0), (("stop",),), [["stop"]], [], (), "stop", "up",
             {"stop": 0}, {"stop"}, (0,), (None,), ("up", 0, "0"))
OFF_ITEMS = (None, True, False, "0", 0.0, (0,), [0], (1, 2), -1, 10 ** 299, {}, b"0")
OFF_WORDS = ("", "x", "+1", "01", "-0", "-1", "00", "1.0", "1/2", "0/1", "-", "//", "Up", "UP", "stop.", "\u0661", "1\n", "1" * 141, "1" * 140, "15",
             "16", "None", "True")


class ProgramTest(Case):

    def test_examples(self):
        self.check_examples(PROGRAMS, dict(vars(programs)))

    def test_lines(self):
        for value in ([("stop",)], [("up", 0, 0)], [("down", 1, 0)], [("test", 1, 0, 0)], [("up", 1, 1), ("test", 0, 1, 0)],
                      [("stop",)] * 15, [("test", 0, 14, 13)] * 15, [("up", 0, 14)] + [("stop",)] * 14):
            told = Program(value).lines
            self.assert_same(told, tuple(value))
            for other in (nested_lists(value), tuple(value), tuple(map(list, value))):
                self.assert_same(Program(other).lines, told)
                self.assert_same(Program(lines=other).lines, told)
                self.assertTrue(Program(other) == Program(value))

    def test_no_lists(self):
        for value in OFF_LISTS:
            self.assert_raises(("BadProgram", "lines"), Program, value)
        self.assert_raises(("BadProgram", "lines"), Program, lines=None)

    def test_lines_that_are_off(self):
        for line in OFF_LINES:
            for many in (0, 1, 14):
                for at in {0, many}:
                    value = [("stop",)] * many
                    value.insert(at, line)
                    self.assert_raises(("BadProgram", "lines"), Program, value)

    def test_items_that_are_off(self):
        for many in (1, 2, 15):
            for line in (("up", 1, 0), ("down", 0, 0), ("test", 1, 0, 0)):
                for at in range(1, len(line)):
                    for item in OFF_ITEMS + (2 if at == 1 else many,):
                        value = [line] * many
                        value[many // 2] = (*line[:at], item, *line[at + 1:])
                        self.assert_raises(("BadProgram", "lines"), Program, value)
                        self.assert_raises(("BadProgram", "lines"), Program, nested_lists(value))
                    good = [line] * many
                    good[-1] = (*line[:at], 1 if at == 1 else many - 1, *line[at + 1:])
                    self.assert_same(Program(good).lines, tuple(good))

    def test_copies(self):
        line = ["up", 0, 0]
        value = [line, ["stop"]]
        told = Program(value)
        line[1] = 5
        value.append("x")
        value[1].append(7)
        self.assert_same(told.lines, (("up", 0, 0), ("stop",)))
        self.assertEqual(str(told), "up 0 0 / stop")

    def test_equal(self):
        some = [STOP, EMPTY, CARRY, Program([("up", 0, 0)]), Program([("up", 1, 0)]), Program([("down", 0, 0)]),
                Program([("stop",)] * 2), Program([("up", 0, 0), ("stop",)]), Program([("up", 0, 1), ("stop",)]),
                Program([("test", 0, 0, 1), ("stop",)]), Program([("test", 0, 1, 0), ("stop",)])]
        for at, one in enumerate(some):
            self.assertTrue(one == Program(nested_lists(one.lines)))
            for place, other in enumerate(some):
                self.assertIs(one == other, at == place)
                self.assertIs(one != other, at != place)
            for value in (None, str(one), one.lines, list(one.lines), 0, True, type("Program", (), {"lines": one.lines})()):
                self.assertIs(one == value, False)
                self.assertIs(value == one, False)


class ProgramTextTest(Case):

    def assert_off(self, text, item):
        self.assert_raises(("BadText", 0, item), Program.read, text)

    def test_back_and_forth(self):
        for text in ("stop", "up 0 0", "down 1 0", "test 1 0 0", "up 1 1 / test 0 1 0", " / ".join(["test 0 14 13"] * 15),
                     "stop / stop / down 0 2"):
            self.assertEqual(str(Program.read(text)), text)
            self.assertEqual(str(Program.read(text=text)), text)
        for program in some_programs(131, 200):
            told = Program.read(str(program))
            self.assertTrue(told == program)
            self.assert_same(told.lines, program.lines)
            self.assertEqual(str(program), " / ".join(" ".join(map(str, line)) for line in program.lines))

    def test_fifteen_lines(self):
        text = " / ".join(["up 0 14"] * 15)
        self.assertEqual(len(Program.read(text).lines), 15)
        for more in ("/", "/ stop", "/ up 0 0", "/ x", "stop", "", "0"):
            self.assert_off(f"{text} {more}", 59)
        self.assert_off(" / ".join(["stop"] * 16), 29)

    def test_words_that_are_off(self):
        for program in some_programs(132, 12) + [EMPTY, CARRY, STOP]:
            words = str(program).split(" ")
            for at, word in enumerate(words):
                if word in ("up", "down", "test", "stop"):
                    off = OFF_WORDS + ("0", "1", "/")
                elif word == "/":
                    off = OFF_WORDS + ("0", "1", "up", "stop")
                else:
                    off = OFF_WORDS + ("up", "stop", "/")
                for item in off:
                    self.assert_off(" ".join(words[:at] + [item] + words[at + 1:]), at)
                    self.assert_off(" ".join(words[:at] + [item]), at)

    def test_boxes(self):
        for word in ("up", "down", "test"):
            for box in ("2", "3", "14"):
                self.assert_off(f"{word} {box} 0 0", 1)
                self.assert_off(f"stop / {word} {box} 0", 3)

    def test_missing(self):
        text = "test 0 2 1 / down 0 0 / up 1 2 / stop"
        words = text.split(" ")
        whole = {}
        for many in range(len(words) + 1):
            cut = " ".join(words[:many])
            if many == 0:
                self.assert_off(cut, 0)
            elif many in (4, 8):
                # Whole lines, but those of them that tell of lines behind them do not stand.
                whole[many] = True
                self.assert_off(cut, many - 1)
            elif many in (12, 14):
                self.assertEqual(str(Program.read(cut)), cut)
            else:
                self.assert_off(cut, many)
        self.assertEqual(list(whole), [4, 8])

    def test_left_out_and_put_in(self):
        for text, item in (("", 0), (" ", 0), ("/", 0), ("/ stop", 0), (" stop", 0), ("stop ", 1), ("stop  / stop", 1), ("stop /", 2),
                           ("stop / ", 2), ("stop / / stop", 2), ("stop stop", 1), ("stop 0", 1), ("up 0", 2), ("up 0 0 0", 3), ("up 0 0 stop", 3),
                           ("test 0 0", 3), ("test 0 0 0 0", 4), ("test 0 0 / stop", 3), ("up 0 / stop", 2), ("up / stop", 1), ("up  0 0", 1),
                           ("0 0", 0), ("stop\n", 0), ("stop\t/ stop", 0), ("stop\n/ stop", 0), ("up 0 0\n", 2), ("stop / up 0 0 / ", 6),
                           ("stop / up 0 0 /", 6), ("stop/stop", 0), ("STOP", 0), ("stop,", 0)):
            self.assert_off(text, item)

    def test_numbers_of_no_line(self):
        """Only the whole shows that a number tells no line: the last item cannot stand, whichever number it is."""
        for text, item in (("up 0 1", 2), ("up 0 14", 2), ("test 0 0 1", 3), ("test 0 1 0", 3), ("up 0 2 / stop", 4), ("stop / down 1 2", 4),
                           ("up 0 3 / stop / stop", 6), ("test 1 0 14 / up 0 0 / test 0 0 0", 12), ("up 0 5 / stop / up 0 9 / stop", 10)):
            self.assert_off(text, item)
            words = text.split(" ")
            for more in ("x", "0", ""):
                self.assert_off(f"{text} {more}", len(words))
            self.assert_off(f"{text} /", len(words) + 1)
        self.assert_off("up 0 15", 2)
        self.assert_off("up 0 15 / stop", 2)
        self.assert_off("test 0 14 15 / stop", 3)
        self.assert_off("test 0 14 14 / x", 5)
        for many in range(1, 16):
            text = " / ".join([f"up 0 {many - 1}"] * many)
            self.assertEqual(len(Program.read(text).lines), many)
            off = text.replace(f"up 0 {many - 1}", f"up 0 {many}", 1)
            self.assert_off(off, 2 if many == 15 else 4 * many - 2)

    def test_any_texts(self):
        """A text that is read is the text of what was read; others are cut where they cannot stand."""
        random, read = Random(133), 0
        for program in some_programs(134, 300):
            words = str(program).split(" ")
            at = random.randrange(len(words))
            more = random.choice((["0"], ["1"], ["stop"], ["up"], ["/"], [], [words[at]] * 2, ["2"]))
            words[at:at + 1] = more
            text = " ".join(words)
            try:
                told = Program.read(text)
            except ValueError as error:
                self.assertTrue(error.line == 0 and 0 <= error.item <= len(text.split(" ")))
            else:
                self.assertEqual(str(told), text)
                read += 1
        self.assertTrue(60 < read < 240)

    def test_no_strings(self):
        for value in (None, 1, True, b"stop", ["stop"], ("stop",), STOP, {}, 1.5):
            self.assert_off(value, 0)
