"""Programs: lines that count in two boxes."""

from timesfloor.checks import is_list, is_within
from timesfloor.errors import BadProgram, BadText
from timesfloor.papers import fixed
from timesfloor.reading import Items

MOST_LINES = 15
# What follows the word of a line: the number of a box, and those of other lines.
FORMS = {"up": ("box", "line"), "down": ("box", "line"), "test": ("box", "line", "line"), "stop": ()}


def greatest(form, many):
    """The greatest number of a box, or of one of so many lines."""
    return 1 if form == "box" else many - 1


def is_line(value, many):
    """Whether a value is a line of a program of so many."""
    if not is_list(value, 1, None) or not isinstance(value[0], str) or value[0] not in FORMS:
        return False
    forms = FORMS[value[0]]
    if len(value) != len(forms) + 1:
        return False
    return all([is_within(item, 0, greatest(form, many)) for item, form in zip(value[1:], forms)])


def are_lines(value):
    """Whether a value is a list of lines that can stand together."""
    return is_list(value, 1, MOST_LINES) and all([is_line(item, len(value)) for item in value])


def line_text(line):
    """The items of a line."""
    return " ".join([str(item) for item in line])


class Program:
    """A program of 1 to 15 lines."""

    def __init__(self, lines):
        if not are_lines(lines):
            raise BadProgram("lines")
        self.lines = fixed(lines)

    def __eq__(self, other):
        return isinstance(other, Program) and self.lines == other.lines

    def __str__(self):
        return " / ".join([line_text(line) for line in self.lines])

    @staticmethod
    def read(text):
        """The program whose text this is."""
        return Program(take_lines(Items(text)))


def take_line(items):
    """Takes the items of a line, whose numbers of lines may be those of any program."""
    word = items.take_word(list(FORMS))
    return tuple([word] + [items.take_integer(0, greatest(form, MOST_LINES)) for form in FORMS[word]])


def take_lines(items):
    """Takes all items that are left, as those of the lines of a program."""
    lines = [take_line(items)]
    while items.has_more():
        if len(lines) == MOST_LINES:
            raise BadText(0, items.at)
        items.take_sign("/")
        lines.append(take_line(items))
    items.want_whole(are_lines(lines))
    return lines


def want_program(value):
    """Refuses what is no program."""
    if not isinstance(value, Program):
        raise BadProgram("program")
