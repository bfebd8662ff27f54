"""Desks [15]."""

from random import Random

from timesfloor import desks
from timesfloor.desks import Desk
from timesfloor.errors import TileError
from timesfloor.machines import Machine, line_machine
from timesfloor.programs import Program

from tests.desk_told import Told
from tests.examples_desks import DESKS
from tests.helpers import Case, raised

KEPT = ("machine a 1 / 1 2 0 / 2 2/3 0 / 3 2/3 0", "machine b 2 / 0 0 0 1 1 0 0 0 / 0 -1 0 1 1/2 0 3 1/2", "machine flip 1 / 0 -1 1 / 0 1 0 / 5 0 11/2",
        "program p test 0 2 1 / down 0 0 / stop", "program halt stop", "machine half 1 / 0 1 1/2", "machine many 1 / 0 4001 0 / 0 4000 0",
        "machine far1 1 / 1000 1 0 / -1000 1 1000000", "led abcdefghij12 p")
LINES = ("machine new 1 / 0 1/2 0 / 3 4 5", "machine new 2 / 0 0 0 1 1 0 0 0", "program new up 0 0", "program new test 1 1 0 / stop",
         "led new p", "led new halt", "moved new a 5", "moved new b 5 -7", "moved new a 5 6", "moved new b 1", "moved new far1 1",
         "mirrored new a", "mirrored new b", "mirrored new far1", "scaled new a 2", "scaled new a 7", "scaled new b 2", "scaled new far1 2",
         "joined new a flip", "joined new a a", "joined new a b", "joined new flip half", "drop a", "drop p", "names", "text a", "text p", "text b",
         "next a 2", "next a 9", "next b 1/2 0", "next b 1 -1/3", "next a 1 1", "next b 1", "run a 3 1", "run a 400 1", "run b 7 1/2 1/3", "run a 401 1",
         "run b 3 1", "run a 0 -7/2", "tile a 0 2 4/3", "tile a 1 -5 2", "tile b 0 7 1/2 1/3", "tile a 3 0 1", "tile a 0 0 5", "tile b 0 0 1",
         "tile a -1 0 1", "row a 0 1 6 4/3", "row b 0 -3 12 1/2 1/3", "row a 0 0 400 4/3", "row a 0 0 401 4/3", "row a 0 0 0 4/3", "row a 3 0 5 4/3",
         "row a 2 0 5 4/3", "row b 0 0 4 1", "row a -1 0 4 1", "living a 5", "living half 1", "living half 9", "living flip 60", "living a 61", "living b 1",
         "living a 0", "judge a 5 3", "judge a 1 3", "judge half 9 1", "judge half 3 8", "judge flip 3 1", "judge a 41 1", "judge a 40 9", "judge b 1 1",
         "band a 0 1", "band a 0 0 0", "band half 0 0 0 0", "band b 0 0", "band a 3", "band many 0", "band many 1", "round a 1 0", "round flip 2 0",
         "round flip 3 0", "round b 2 0", "round flip 60 1 1", "round flip 61 1", "round flip 0 1", "round flip 1 3", "round many 1 0",
         "course p 2 0 1 7", "course p 9 0 1 -", "course p 1 1 0 0", "course p 400 0 - -", "course p 401 0 0 0", "course p 0 2 5 6", "course p 0 3 0 0",
         "course halt 1 0 - 3")
WORDS = ("", "-", "0", "1", "2", "-1", "1/2", "-3/2", "2/4", "01", "+1", "-0", "1/1", "x", "A", "a", "b", "p", "halt", "new", "zz", "flip", "names",
         "1a", "a1", "a_b", "abcdefghijkl", "abcdefghijklm", "\u00e9", "a\n", "/", "1" * 140, "1" * 141, "-" + "1" * 140, "1/" + "3" * 140,
         "1/" + "3" * 141, "stop", "machine", "60", "400", "1.5", "None", "\t")


def set_up(desk, lines=KEPT):
    for line in lines:
        desk.tell(line)
    return desk


def state(desk):
    """All that a desk keeps, by its own answers."""
    names = desk.tell("names")
    return [names] + [desk.tell(f"text {name}") for name in names.split(" ") if names != "-"]


class DeskTest(Case):

    def test_examples(self):
        self.check_examples(DESKS, dict(vars(desks)))

    def check(self, desk, told, line):
        """The answer, or the error, of a line is that of a desk as the document tells it."""
        before = state(desk)
        answers, errors = [], []
        for one in (desk, told):
            try:
                answers.append(one.tell(line))
            except TileError as error:
                errors.append((type(error).__name__, vars(error)))
        self.assertEqual(len(answers) in (0, 2), True, (line, answers, errors))
        if errors:
            self.assertEqual(errors[0], errors[1], line)
            self.assertEqual(state(desk), before)
        else:
            self.assert_same(answers[0], answers[1])
        return errors[0][0] if errors else line.split(" ")[0]

    def test_each_line(self):
        met = {}
        for line in LINES:
            desk, told = set_up(Desk()), set_up(Told())
            what = self.check(desk, told, line)
            met.setdefault(what, []).append(line)
            self.assertEqual(state(desk), state(told))
        for word in ("machine", "program", "led", "moved", "mirrored", "scaled", "joined", "drop", "names", "text", "next", "run", "tile", "row",
                     "living", "judge", "band", "round", "course", "Misfit", "TooMany", "BadNumber", "BadPoint", "BadWay", "BadStand"):
            self.assertIn(word, met)

    def test_answers(self):
        """Told by hand, not by what the functions tell."""
        desk = set_up(Desk())
        for line, told in (("names", "a abcdefghij12 b far1 flip half halt many p"), ("text p", "test 0 2 1 / down 0 0 / stop"),
                           ("text b", "2 / 0 0 0 1 1 0 0 0 / 0 -1 0 1 1/2 0 3 1/2"), ("next b 1/2 0", "0 0 1/2 / 1 3 3/4"), ("next b 5 5", "-"),
                           ("next a 2", "0 4 / 1 4/3"), ("run b 1 1/2 -1/3", "8/3 3/4 1"), ("run a 2 1", "4 2"), ("run a 0 1", "1 0"),
                           ("tile b 0 3 1/2 1/3", "0 0 1 0 0 1 0 0 0"), ("row b 0 1 6 1/2 1/3", ".-:-.#"), ("row b 0 6 1 1/2 1/3", "#"),
                           ("living flip 2", "0 1 / 5 6"), ("living half 9", "-"), ("living half 2", "0 1/2"), ("judge flip 3 1", "returns"),
                           ("judge half 9 1", "dies 4"), ("judge half 3 8", "unsure"), ("judge a 5 3", "stays"), ("band half 0 0 0 0", "gap 5"),
                           ("band half 0 0 0", "band"), ("round flip 2 0", "round"), ("round flip 3 0", "straight"), ("course p 9 0 1 -", "2 0 - stop"),
                           ("course p 9 1 0 -", "1 0 - fault"), ("course p 3 0 - 0", "1 - 0 runs"), ("moved new a -1", "wide 1 pieces 3"),
                           ("text new", "1 / 0 2 1 / 1 2/3 -1/3 / 2 2/3 -1/3"), ("joined both a new", "wide 1 pieces 6"), ("drop new", "new"),
                           ("scaled new half 2", "wide 1 pieces 2"), ("text new", "1 / 0 1 1 / 1 1 1"), ("mirrored m half", "wide 1 pieces 1"),
                           ("text m", "1 / -1 1 -1/2"), ("text abcdefghij12", "2 / 0 0 1 0 0 1 4 0 / 0 2 1 0 0 1 4 0 / 2 0 1 0 0 1 8 0 / "
                                                         "2 2 1 0 0 1 8 0 / 4 0 3 0 0 1 -12 0 / 4 2 3 0 0 1 -12 0")):
            self.assert_same(desk.tell(line), told)
            if line != "drop new" and line.split(" ")[0] not in ("moved", "joined", "scaled", "mirrored"):
                self.assert_same(desk.tell(line=line), told)
        desk = Desk()
        self.assert_same(desk.tell("names"), "-")
        self.assert_same(desk.tell("program p stop"), "lines 1")
        self.assert_same(desk.tell("drop p"), "p")
        self.assert_same(desk.tell("names"), "-")
        self.assert_raises(("NoName", "p"), desk.tell, "drop p")

    def test_bent_lines(self):
        """Items exchanged, left out, put in, cut off, doubled, empty."""
        random, met = Random(181), {}
        desk, told = set_up(Desk()), set_up(Told())
        for line in LINES:
            words = line.split(" ")
            for at in range(len(words) + 1):
                bent = [words[:at], words[:at] + words[at + 1:], words[:at] + words[at:at + 1] * 2 + words[at + 1:]]
                for word in random.sample(WORDS, 12) + [random.choice(words)]:
                    bent += [words[:at] + [word] + words[at + 1:], words[:at] + [word] + words[at:]]
                for other in bent:
                    if raised(lambda: told.tell(" ".join(other))) is None and other[0] in ("machine", "program", "led", "moved", "mirrored", "scaled",
                                                                                           "joined", "drop"):
                        desk, told = set_up(Desk()), set_up(Told())
                    what = self.check(desk, told, " ".join(other))
                    met[what] = met.get(what, 0) + 1
                    if what in ("machine", "program", "led", "moved", "mirrored", "scaled", "joined", "drop"):
                        desk, told = set_up(Desk()), set_up(Told())
        self.assertLessEqual({"BadText", "Twice", "NoName", "Misfit", "BadNumber", "BadPoint", "BadWay", "BadStand", "TooMany"}, set(met))
        self.assertGreater(min(met[what] for what in ("BadText", "Twice", "NoName", "Misfit", "BadNumber", "BadPoint")), 20)

    def test_any_lines(self):
        """Lines one behind another, that keep and drop, on two desks that know nothing of one another."""
        for seed in range(6):
            random = Random(190 + seed)
            desk, told, other = Desk(), Told(), Desk()
            for _ in range(250):
                line = random.choice(KEPT + LINES)
                words = line.split(" ")
                if random.random() < 0.6 and len(words) > 1:
                    words[1] = random.choice("abcdpq")
                if random.random() < 0.4 and len(words) > 2 and words[0] in ("moved", "mirrored", "scaled", "joined", "led"):
                    words[2] = random.choice("abcdpq")
                self.check(desk, told, " ".join(words))
            self.assertEqual(state(desk), state(told))
            self.assertEqual(other.tell("names"), "-")


class ErrorsTest(Case):

    def assert_error(self, error, line, lines=KEPT):
        desk = set_up(Desk(), lines)
        before = state(desk)
        self.assert_raises(error, desk.tell, line)
        self.assertEqual(state(desk), before)

    def test_order(self):
        for error, line in (
                (("BadText", 0, 4), "machine a 1 / x 1 0"), (("Twice", "a"), "machine a 1 / 0 1 0"), (("BadText", 0, 6), "machine a 1 / 0 1"),
                (("BadText", 0, 10), "machine a 1 / 0 1 0 / 0 1 0"), (("BadText", 0, 4), "program a up 0 1"), (("BadText", 0, 2), "program a"),
                (("Twice", "p"), "program p stop"), (("Twice", "a"), "led a zz"), (("Twice", "a"), "led a halt"), (("Twice", "a"), "joined a zz p"),
                (("NoName", "zz"), "joined new zz yy"), (("NoName", "yy"), "joined new p yy"), (("NoName", "zz"), "joined new zz p"),
                (("NoName", "new"), "mirrored new new"), (("Misfit", "name"), "joined new a p"), (("Misfit", "name"), "joined new p a"),
                (("Misfit", "name"), "joined new b p"), (("Misfit", "other"), "joined new a b"), (("Misfit", "name"), "led new a"),
                (("Misfit", "program"), "led new halt"), (("Misfit", "name"), "course a 9 0 0 0"), (("Misfit", "name"), "scaled new p 9"),
                (("BadNumber", "by"), "scaled new b 9"), (("Misfit", "machine"), "scaled new b 2"), (("Misfit", "by"), "scaled new far1 2"),
                (("BadNumber", "shift"), "moved new a 1 1"), (("BadNumber", "shift"), "moved new b 1"), (("Misfit", "shift"), "moved new far1 1"),
                (("Misfit", "machine"), "mirrored new far1"), (("BadPoint", "point"), "run b 401 1"), (("BadNumber", "steps"), "run b 401 1 1"),
                (("BadNumber", "steps"), "run a -1 1"), (("BadNumber", "piece"), "tile a 3 0 1 1"), (("BadPoint", "point"), "tile a 0 0 1 1"),
                (("Misfit", "point"), "tile a 0 0 3"), (("BadPoint", "point"), "row a 9 0 401 1 1"), (("BadWay", "way"), "row a 3 0 401 3"),
                (("BadNumber", "many"), "row a 0 0 401 3"), (("Misfit", "way"), "row a 0 0 400 3"), (("BadNumber", "steps"), "living b 61"),
                (("Misfit", "machine"), "living b 60"), (("BadNumber", "most"), "judge b 41 9"), (("BadNumber", "long"), "judge b 40 9"),
                (("Misfit", "machine"), "judge b 40 8"), (("BadWay", "way"), "band many 2"), (("TooMany", "carries", 4000), "band many 1 0"),
                (("TooMany", "columns", 4000), "band many 1"), (("BadWay", "way"), "round many 61 2"), (("BadNumber", "wide"), "round many 61 0"),
                (("TooMany", "carries", 4000), "round many 60 0"), (("BadStand", "stand"), "course p 401 3 0 0"), (("BadNumber", "steps"), "course p 401 2 0 0"),
                (("TooMany", "rows", 60), "round flip 1" + " 1" * 61), (("NoName", "zz"), "drop zz"), (("NoName", "zz"), "text zz"),
                (("NoName", "zz"), "next zz 1"), (("NoName", "names"), "drop names")):
            self.assert_error(error, line)

    def test_names(self):
        for word in ("a", "z9", "abcdefghijkl", "z12345678901", "names", "machine", "drop"):
            desk = Desk()
            self.assert_same(desk.tell(f"program {word} stop"), "lines 1")
            self.assert_same(desk.tell(f"text {word}"), "stop")
            self.assert_same(desk.tell("names"), word)
            self.assert_same(desk.tell(f"drop {word}"), word)
        for word in ("", "1a", "9", "A", "aB", "a-b", "a_b", "a/b", "a.", "abcdefghijklm", "z123456789012", "\u00e9", "\u0661", "a\u0661", "-", "/", "a\n", "a\t"):
            for line, item in (("machine {} 1 / 0 1 0", 1), ("program {} stop", 1), ("led {} p", 1), ("led new {}", 2), ("moved {} a 1", 1),
                               ("moved new {} 1", 2), ("joined new a {}", 3), ("joined new {} a", 2), ("drop {}", 1), ("text {}", 1), ("next {} 1", 1),
                               ("course {} 1 0 0 0", 1), ("band {} 0", 1)):
                self.assert_error(("BadText", 0, item), line.format(word))

    def test_ascending(self):
        desk = Desk()
        for name in ("b", "a10", "a2", "a", "zz", "b1", "c"):
            desk.tell(f"program {name} stop")
        self.assert_same(desk.tell("names"), "a a10 a2 b b1 c zz")

    def test_long_ways(self):
        desk = set_up(Desk(), ("machine a 1 / 0 1 0",))
        self.assert_same(desk.tell("band a" + " 0" * 400), "band")
        self.assert_raises(("BadText", 0, 402), desk.tell, "band a" + " 0" * 401)
        self.assert_raises(("BadText", 0, 402), desk.tell, "band a" + " 0" * 400 + " x")
        self.assert_raises(("TooMany", "rows", 60), desk.tell, "round a 1" + " 0" * 400)
        self.assert_raises(("BadText", 0, 403), desk.tell, "round a 1" + " 0" * 401)
        self.assert_raises(("BadText", 0, 2), desk.tell, "band a")
        self.assert_raises(("BadText", 0, 3), desk.tell, "round a 1")
        self.assert_raises(("BadText", 0, 3), desk.tell, "band a 0 -1")
        self.assert_raises(("BadText", 0, 2), desk.tell, "band a 1/2")

    def test_long_integers(self):
        desk = set_up(Desk(), ("machine a 1 / 0 1 0", "program p up 0 0"))
        most = "9" * 140
        self.assert_same(desk.tell(f"tile a 0 {most} 1"), "0 1 0 1 0")
        self.assert_same(desk.tell(f"tile a 0 -{most} 1"), "0 1 0 1 0")
        self.assert_same(desk.tell(f"next a 1/{most}"), f"0 1/{most}")
        self.assert_same(desk.tell(f"next a {most}"), "-")
        self.assert_same(desk.tell(f"course p 1 0 {most} -"), "0 1" + "0" * 140 + " - runs")
        for line, item in (("tile a 0 {} 1", 3), ("tile a {} 0 1", 2), ("next a {}", 2), ("next a 1/{}", 2), ("next a {}/2", 2), ("next a 1 {}", 3),
                           ("course p {} 0 0 0", 2), ("course p 1 {} 0 0", 3), ("course p 1 0 {} 0", 4), ("course p 1 0 0 {}", 5), ("band a {}", 2),
                           ("band a 0 {}", 3), ("round a {} 0", 2), ("living a {}", 2), ("judge a 1 {}", 3), ("row a 0 0 {} 1", 4), ("moved b a {}", 3),
                           ("moved b a 1 {}", 4), ("scaled b a {}", 3), ("run a {} 1", 2)):
            for word in (most + "9", "-" + most + "9"):
                self.assert_raises(("BadText", 0, item), desk.tell, line.format(word))
        self.assert_raises(("BadStand", "stand"), desk.tell, f"course p 1 {most} 0 0")
        self.assert_raises(("BadNumber", "steps"), desk.tell, f"course p {most} 0 0 0")
        self.assert_raises(("BadWay", "way"), desk.tell, f"band a {most}")

    def test_very_long_answers(self):
        """Numbers of a run may have more digits than Python writes at once."""
        desk = set_up(Desk(), ("machine a 2 / 0 0 1/997 1/991 1/983 1/977 5 0 / 5 0 1/971 1/967 1/953 1/947 0 0",))
        told = desk.tell("run a 400 1/2 1/3").split(" ")
        self.assertEqual(told[2], "400")
        x, y, under = 3, 2, 6
        for step in range(400):
            a, b, c, d = ((997, 991, 983, 977), (971, 967, 953, 947))[step % 2]
            x, y, more = x * b * c * d + y * a * c * d, x * a * b * d + y * a * b * c, a * b * c * d
            under = under * more
            x += 5 * under if step % 2 == 0 else 0
        for word, value in zip(told, (x, y)):
            one, other = map(self.read, word.split("/"))
            self.assertGreater(len(word), 2 * 4300)
            self.assertEqual(one * under, value * other)

    def read(self, digits):
        """Part by part, as Python itself refuses to read so many digits at once."""
        value = 0
        for at in range(0, len(digits), 1000):
            part = digits[at:at + 1000]
            value = value * 10 ** len(part) + int(part)
        return value

    def test_no_lines(self):
        desk = set_up(Desk())
        for value in (None, 1, True, b"names", ["names"], ("names",), {}, 1.5, Desk(), "", " ", "Names", "name", "names ", " names", "names\n", "names -",
                      "a", "0", "-", "/", "machine  a 1 / 0 1 0", "drop  a", "text", "text ", "drop a b", "text a p"):
            words = value.split(" ") if isinstance(value, str) else []
            item = 0 if not words or words[0] not in ("names", "machine", "drop", "text") else {"machine": 1, "drop": 2, "names": 1}.get(words[0], 1)
            item = {"drop  a": 1, "text a p": 2}.get(value if isinstance(value, str) else "", item)
            self.assert_raises(("BadText", 0, item), desk.tell, value)

    def test_what_is_kept_stays(self):
        desk = set_up(Desk())
        for line, error in (("machine a 1 / 0 1 0", "Twice"), ("mirrored far2 far1", "Misfit"), ("scaled b2 b 2", "Misfit"), ("led h halt", "Misfit")):
            before = state(desk)
            self.assertEqual(raised(lambda: desk.tell(line))[0], error)
            self.assertEqual(state(desk), before)
        for name in desk.tell("names").split(" "):
            text = desk.tell(f"text {name}")
            if text[0] in "12":
                self.assertEqual(str(Machine.read(text)), text)
            else:
                self.assertEqual(str(Program.read(text)), text)
        self.assertEqual(desk.tell("text a"), str(line_machine([(1, 2, 0), (2, (2, 3), 0), (3, (2, 3), 0)])))
