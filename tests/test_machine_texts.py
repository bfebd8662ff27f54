"""The texts of machines [2]."""

from random import Random

from timesfloor.machines import Machine, line_machine

from tests.helpers import Case
from tests.machines_made import some_machines, some_piece

TEXTS = (
    "1 / 0 0 0", "1 / -1000 -1000000/999 1/1000", "1 / 1 2 0 / 1 2 1 / 1 3 0 / 0 2 0", "1 / 1000 1000000 -1000000",
    "2 / 0 0 0 0 0 0 0 0", "2 / 0 -1 0 1 1/2 0 3 1/2", "2 / 1 2 3 4 5 6 7 8 / 2 1 3 4 5 6 7 8 / 1 2 3 4 5 6 8 7",
)
OFF_WORDS = ("", "x", "+1", "01", "-0", "1.0", "1_0", "2/4", "1/1", "0/2", "1/-2", "//", "1001/1001", "-", "\u0661",
             "1\n", "1" * 141, "10000000", "-10000000", "1/10000")
CUT = "2 / 0 0 1 2 3 4 5 6 / 1 -1 1 2 3 4 5 6"


class MachineTextsTest(Case):

    def assert_off(self, text, item):
        self.assert_raises(("BadText", 0, item), Machine.read, text)

    def test_back_and_forth(self):
        for text in TEXTS:
            self.assertEqual(str(Machine.read(text)), text)
            self.assertEqual(str(Machine.read(text=text)), text)
        for machine in some_machines(7, 100):
            told = Machine.read(str(machine))
            self.assertTrue(told == machine)
            self.assert_same([told.wide, told.pieces], [machine.wide, machine.pieces])

    def test_sixty_pieces(self):
        for wide in (1, 2):
            random = Random(wide)
            pieces = list(dict.fromkeys(some_piece(random, wide, 100) for _ in range(70)))
            machine = Machine(wide, pieces[:60])
            text = str(machine)
            self.assertTrue(Machine.read(text) == machine)
            many = len(text.split(" "))
            more = str(Machine(wide, pieces[60:61])).partition(" ")[2]
            self.assert_off(f"{text} {more}", many)
            self.assert_off(f"{text} /", many)
            self.assert_off(f"{text} 1", many)

    def test_unlike_texts(self):
        some = some_machines(8, 60) + [Machine.read(text) for text in TEXTS]
        for one in some:
            for other in some:
                self.assertEqual(one == other, str(one) == str(other))

    def test_words_that_are_off(self):
        for text in TEXTS:
            words = text.split(" ")
            for at, word in enumerate(words):
                for off in OFF_WORDS + (("/",) if word != "/" else ("0", "1", "1/2")):
                    self.assert_off(" ".join(words[:at] + [off] + words[at + 1:]), at)
                    self.assert_off(" ".join(words[:at] + [off]), at)

    def test_missing(self):
        words = CUT.split(" ")
        for many in range(1, len(words)):
            if many != 10:
                self.assert_off(" ".join(words[:many]), many)
        self.assertEqual(len(Machine.read(" ".join(words[:10])).pieces), 1)
        self.assert_off("1", 1)
        self.assert_off("1 / 1 2 0 /", 6)

    def test_bounds(self):
        for low in ("1001", "-1001", "1/2"):
            self.assert_off(f"1 / {low} 2 0", 2)
            self.assert_off(f"2 / 0 {low} 1 2 3 4 5 6", 3)
        for number in ("1000001", "-1000001", "1000001/2", "1/1001", "-1/1001"):
            self.assert_off(f"1 / 1 {number} 0", 3)
            self.assert_off(f"1 / 1 0 {number}", 4)
            self.assert_off(f"2 / 0 0 1 2 3 {number} 5 6", 7)
        for wide in ("0", "3", "-1", "1/2", "12"):
            self.assert_off(f"{wide} / 1 2 0", 0)

    def test_left_out_and_put_in(self):
        for text, item in (("", 0), (" ", 0), ("/", 0), ("/ 1 2 0", 0), ("1 1 2 0", 1), (" 1 / 1 2 0", 0), ("1  / 1 2 0", 1),
                           ("1 / 1 2 0 ", 5), ("1 / 1  2 0", 3), ("1 / 1 2 0 /", 6), ("1 / 1 2 0 / ", 6), ("1 / 1 2 0 5", 5),
                           ("1 / 1 2 / 2 2 0", 4), ("1 / / 1 2 0", 2), ("1 / 1 2 0 / / 2 2 0", 6), ("1 1 / 1 2 0", 1),
                           ("1 / 1 2 0 2 2 0", 5), ("1 / 1 2 0 / 2 2 0 0", 9), ("2 / 0 0 1 2 3 4 5", 9),
                           ("2 / 0 0 1 2 3 4 5 6 7", 10), ("1\t/ 1 2 0", 0), ("1 / 1 2 0\n", 4)):
            self.assert_off(text, item)

    def test_told_twice(self):
        for text, item in (("1 / 1 2 0 / 1 2 0", 8), ("1 / 1 2 0 / 2 2 0 / 1 2 0", 12), ("1 / 1 2 0 / 1 2 0 x", 8),
                           ("1 / 1 2 0 / 1 2 0 / 3", 8), ("1 / 1 2 0 / 1 2", 8), ("1 / 1 2 0 / 1 2 x", 8),
                           ("2 / 0 0 1 2 3 4 5 6 / 0 0 1 2 3 4 5 6", 18),
                           ("1 / 1 2 0 / 1 2 0 / 1 2 0", 8), ("1 / 1 1/2 0 / 3 0 0 / 1 1/2 0", 12)):
            self.assert_off(text, item)

    def test_no_strings(self):
        for value in (None, 1, True, b"1 / 1 2 0", ["1", "/", "1", "2", "0"], ("1 / 1 2 0",), line_machine([(1, 2, 0)]),
                      {}, 1.5):
            self.assert_off(value, 0)
