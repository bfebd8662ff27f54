"""The lines that a desk is told: which there are, and reading them."""

from timesfloor.errors import BadText
from timesfloor.machine_texts import take_machine
from timesfloor.machines import Machine
from timesfloor.programs import Program, take_lines
from timesfloor.reading import Items
from timesfloor.wants import MOST_STEPS

MOST_SIGNS = 12
LETTERS = "abcdefghijklmnopqrstuvwxyz"
DIGITS = "0123456789"


def is_name(word):
    """Whether a string is a name."""
    if not 1 <= len(word) <= MOST_SIGNS or word[0] not in LETTERS:
        return False
    return all([sign in LETTERS or sign in DIGITS for sign in word])


def take_name(items):
    """Takes a name."""
    word = items.coming()
    return items.passed(word, is_name(word))


def take_whole(items):
    """Takes an integer."""
    return items.take_integer(None, None)


def take_shift(items):
    """Takes one integer or two."""
    first = take_whole(items)
    return (first, take_whole(items)) if items.has_more() else (first,)


def take_point(items):
    """Takes one number or two."""
    first = items.take_number()
    return (first, items.take_number()) if items.has_more() else (first,)


def take_way(items):
    """Takes the numbers of pieces, as many as a way can have."""
    way = [items.take_integer(0, None)]
    while items.has_more():
        if len(way) == MOST_STEPS:
            raise BadText(0, items.at)
        way.append(items.take_integer(0, None))
    return tuple(way)


def take_contents(items):
    """Takes the contents of a box."""
    if items.coming() == "-":
        return items.passed(None, True)
    return items.take_integer(0, None)


def take_stand(items):
    """Takes a stand, of whatever program."""
    return items.take_integer(0, None), take_contents(items), take_contents(items)


def take_new_machine(items):
    """Takes a machine by its text."""
    wide, pieces = take_machine(items)
    return Machine(wide, pieces)


def take_new_program(items):
    """Takes a program by its text."""
    return Program(take_lines(items))


# Names stand by what they want to be kept by them: nothing yet, a machine, a program, or any of both.
TAKERS = {
    "new": take_name, "machine": take_name, "program": take_name, "any": take_name, "whole": take_whole,
    "shift": take_shift, "point": take_point, "way": take_way, "stand": take_stand,
    "machine text": take_new_machine, "program text": take_new_program,
}
FORMS = {
    "machine": ("new", "machine text"), "program": ("new", "program text"), "led": ("new", "program"),
    "moved": ("new", "machine", "shift"), "mirrored": ("new", "machine"), "scaled": ("new", "machine", "whole"),
    "joined": ("new", "machine", "machine"), "drop": ("any",), "names": (), "text": ("any",),
    "next": ("machine", "point"), "run": ("machine", "whole", "point"), "tile": ("machine", "whole", "whole", "point"),
    "row": ("machine", "whole", "whole", "whole", "point"), "living": ("machine", "whole"),
    "judge": ("machine", "whole", "whole"), "band": ("machine", "way"), "round": ("machine", "whole", "way"),
    "course": ("program", "whole", "stand"),
}


def read_line(line):
    """The word of a line, and the pairs (form, value) of what follows it."""
    items = Items(line)
    word = items.take_word(list(FORMS))
    told = []
    for form in FORMS[word]:
        take = TAKERS[form]
        told.append((form, take(items)))
    items.take_end()
    return word, told
