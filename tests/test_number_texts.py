"""Numbers as texts [2] [4]."""

from timesfloor.number_texts import number_of, number_text

from tests.helpers import Case
from tests.test_numbers import NONE

EXAMPLES = """
>>> [number_text((-3, 2)), number_text(7), number_of("-3/2"), number_of("0")]
['-3/2', '7', (-3, 2), 0]
>>> number_of("2/4")
raises BadText(0, 0)
"""
LONG = 10 ** 139 + 1
TEXTS = {
    "0": 0, "1": 1, "-1": -1, "10": 10, "-10": -10, "907": 907, "1/2": (1, 2), "-1/2": (-1, 2), "10/3": (10, 3),
    "-7/10": (-7, 10), "1/1001": (1, 1001), "1000001": 1000001, "9" * 140: 10 ** 140 - 1, "-" + "9" * 140: 1 - 10 ** 140,
    f"{LONG}/{LONG - 1}": (LONG, LONG - 1), f"-{LONG}/2": (-LONG, 2),
}
OFF = (
    "", " ", "-", "+1", "+1/2", "1/+2", "00", "01", "-01", "-0", "-0/2", "0/2", "01/2", "1/02", "1/-2", "-1/-2", " 1",
    "1 ", "1 2", "1 /2", "1/ 2", "1 / 2", "- 1", "\t1", "1\n", "1\n/2", "/", "/2", "1/", "-/2", "1/0", "1/1", "5/1",
    "0/1", "2/4", "-6/4", "10/5", "1/2/3", "1//2", "/1/2", "1/2/", "a", "1a", "0x1", "1_0", "1e3", "1.5", "1.0", "--1",
    "1-", "1/2-", "\u00b2", "\u0663", "\u0661/2", "1/\u0662", "\uff11", "None", "True", "(1, 2)", "1,2", "x/y",
    "1" * 141, "-" + "1" * 141, "1/" + "1" * 141, "1" * 141 + "/2", "0" * 140, "9" * 20000,
)


class NumberTextsTest(Case):

    def test_examples(self):
        self.check_examples(EXAMPLES, {"number_text": number_text, "number_of": number_of})

    def test_back_and_forth(self):
        for text, number in TEXTS.items():
            self.assert_same(number_of(text), number)
            self.assert_same(number_of(text=text), number)
            self.assert_same(number_text(number), text)
            self.assert_same(number_text(number=number), text)

    def test_lists_are_numbers(self):
        self.assert_same(number_text([-3, 2]), "-3/2")

    def test_written_with_all_digits(self):
        self.assert_same(number_text(10 ** 140), "1" + "0" * 140)
        self.assert_same(number_text((1, 10 ** 140)), "1/1" + "0" * 140)

    def test_texts_of_none(self):
        for text in OFF:
            self.assert_raises(("BadText", 0, 0), number_of, text)

    def test_no_texts(self):
        for value in (None, 1, 0, True, (1, 2), ["1"], ("1",), b"1", 1.0, {"1": 1}):
            self.assert_raises(("BadText", 0, 0), number_of, value)

    def test_no_numbers(self):
        for value in NONE:
            self.assert_raises(("BadFraction", "number"), number_text, value)
