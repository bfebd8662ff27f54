"""Numbers as texts, and back again."""

from timesfloor.errors import BadText
from timesfloor.exact import parts_of
from timesfloor.numbers import is_number, want_number

MOST_DIGITS = 140
CHUNK = 10 ** 64


def integer_in(word):
    """The integer that a string is written as; None if it is written as none."""
    digits = word.removeprefix("-")
    if not (digits.isascii() and digits.isdigit()) or len(digits) > MOST_DIGITS:
        return None
    if digits.startswith("0") and word != "0":
        return None
    return int(word)


def number_in(word):
    """The number that a string is written as; None if it is written as none."""
    if "/" not in word:
        return integer_in(word)
    above, _, under = word.partition("/")
    pair = (integer_in(above), integer_in(under))
    return pair if is_number(pair) else None


def integer_text(value):
    """The text of an integer, however long: Python itself refuses to write very long ones at once."""
    left = abs(value)
    words = []
    while left >= CHUNK:
        left, low = divmod(left, CHUNK)
        words.append(f"{low:064d}")
    sign = "-" if value < 0 else ""
    return sign + str(left) + "".join(words[::-1])


def number_text(number):
    """The text of a number."""
    want_number(number, "number")
    above, under = parts_of(number)
    return integer_text(above) if under == 1 else f"{integer_text(above)}/{integer_text(under)}"


def number_of(text):
    """The number whose text this is."""
    number = number_in(text) if isinstance(text, str) else None
    if number is None:
        raise BadText(0, 0)
    return number
