"""Scripts [15]."""

from timesfloor import scripts
from timesfloor.desks import Desk
from timesfloor.errors import BadLine, BadNumber, BadText, Misfit, NoName, TileError, TooMany, Twice
from timesfloor.scripts import played

from tests.desk_told import Told
from tests.examples_desks import SCRIPTS
from tests.helpers import Case
from tests.test_desks import KEPT, LINES

START = ["machine a 1 / 0 1 1/2", "names", "next a 1/2", "drop a", "names"]


class ScriptsTest(Case):

    def test_examples(self):
        self.check_examples(SCRIPTS, dict(vars(scripts)))

    def test_right_lines(self):
        self.assert_same(played(START), ("wide 1 pieces 1", "a", "0 1", "a", "-"))
        self.assert_same(played(tuple(START)), ("wide 1 pieces 1", "a", "0 1", "a", "-"))
        self.assert_same(played(lines=START[:1]), ("wide 1 pieces 1",))
        self.assert_same(played([]), ())
        self.assert_same(played(()), ())
        self.assert_same(played(["names"] * 500), ("-",) * 500)

    def test_each_line(self):
        """Behind those that keep something, each line answers as a desk does, or raises what it raises."""
        raises = set()
        for line in LINES:
            told, desk = Told(), Desk()
            answers = tuple(told.tell(other) for other in KEPT)
            self.assert_same(tuple(desk.tell(other) for other in KEPT), answers)
            try:
                answer = told.tell(line)
            except TileError as error:
                with self.assertRaises(BadLine) as caught:
                    played([*KEPT, line, "names"])
                self.assertEqual(caught.exception.line, len(KEPT))
                self.assertIs(type(caught.exception.error), type(error))
                self.assertEqual(vars(caught.exception.error), vars(error))
                raises.add(type(error).__name__)
            else:
                self.assert_same(played([*KEPT, line])[:-1], answers)
                self.assert_same(played([*KEPT, line])[-1], answer)
        self.assertGreater(len(raises), 4)

    def test_lines_that_raise(self):
        for lines, at, kind, fields in (
                (["names", "drop some"], 1, NoName, {"value": "some"}), (["x"], 0, BadText, {"line": 0, "item": 0}), ([""], 0, BadText, {"line": 0, "item": 0}),
                (["program p stop", "program p stop"], 1, Twice, {"value": "p"}), (["program p up 0 1"], 0, BadText, {"line": 0, "item": 4}),
                (["program p stop", "names", "led m p", "x"], 2, Misfit, {"part": "program"}), (["program p stop", "next p 1"], 1, Misfit, {"part": "name"}),
                (START + ["next a 1"], 5, NoName, {"value": "a"}), (START[:1] + ["living a 61"], 1, BadNumber, {"part": "steps"}),
                (START[:1] + ["band a" + " 0" * 60], 1, TooMany, {"what": "columns", "most": 4000}), (["names"] * 99 + ["names "], 99, BadText, {"line": 0, "item": 1})):
            for value in (lines, tuple(lines), [*lines, "names"], [*lines, "y"]):
                with self.assertRaises(BadLine) as caught:
                    played(value)
                self.assertEqual(caught.exception.line, at)
                self.assertIs(type(caught.exception.error), kind)
                self.assertEqual(vars(caught.exception.error), fields)
                self.assertEqual(set(vars(caught.exception)), {"line", "error"})

    def test_no_lists_of_strings(self):
        for value in (None, 0, 1, True, "names", "", b"names", {}, {"names": 1}, {"names"}, range(2), iter(["names"]), object(), [None], [1], ["names", None],
                      [["names"]], [b"names"], ["names", 1], (True,), ["x", None], [("names",)], Desk()):
            self.assert_raises(("BadText", 0, 0), played, value)
        self.assert_raises(("BadText", 0, 0), played, lines=None)

    def test_desks_do_not_meddle(self):
        lines = ["machine a 1 / 0 1 0"]
        self.assertEqual(played(lines), played(lines))
        one, other = Desk(), Desk()
        one.tell(lines[0])
        self.assert_same([one.tell("names"), other.tell("names"), *played(["names"])], ["a", "-", "-"])
        other.tell("program a stop")
        one.tell("mirrored b a")
        self.assert_same([one.tell("text a"), other.tell("text a"), one.tell("names"), other.tell("names")],
                         ["1 / 0 1 0", "stop", "a b", "a"])
        one.tell("drop a")
        self.assert_same([one.tell("names"), other.tell("names")], ["b", "a"])
        self.assert_same(lines, ["machine a 1 / 0 1 0"])
