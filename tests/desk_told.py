"""What a desk answers to lines, item by item as the tables of the document tell it; for the tests."""

import re

from timesfloor.bands import judged_band
from timesfloor.changes import joined, mirrored, moved, scaled
from timesfloor.courses import judged_course
from timesfloor.errors import BadText, Misfit, NoName, Twice
from timesfloor.floors import block_of
from timesfloor.judged import judged
from timesfloor.leads import machine_of
from timesfloor.machines import Machine, nexts
from timesfloor.pictures import picture, tile_text
from timesfloor.programs import Program
from timesfloor.rounds import judged_round
from timesfloor.runs import first_run
from timesfloor.stretches import living
from timesfloor.tiles import tile_at

from tests.machines_made import formed

# Behind each word the kinds of its items; ? is told for one that may be left out, * for up to 399 more.
KINDS = {
    "led": "new program", "moved": "new machine int int?", "mirrored": "new machine", "scaled": "new machine int",
    "joined": "new machine machine", "drop": "any", "names": "", "text": "any", "next": "machine number number?",
    "run": "machine int number number?", "tile": "machine int int number number?", "row": "machine int int int number number?",
    "living": "machine int", "judge": "machine int int", "band": "machine count count*", "round": "machine int count count*",
    "course": "program int count box box", "machine": "new", "program": "new",
}
NAME = r"[a-z][a-z0-9]{0,11}"
INTEGER = r"(0|-?[1-9][0-9]{0,139})"
FORMS = {"new": NAME, "program": NAME, "machine": NAME, "any": NAME, "int": INTEGER, "count": r"(0|[1-9][0-9]{0,139})",
         "box": r"(0|[1-9][0-9]{0,139}|-)"}


def number_in(word):
    """The number that a word is written as, or None."""
    if re.fullmatch(INTEGER, word):
        return int(word)
    found = re.fullmatch(INTEGER + "/" + INTEGER, word)
    if found is None:
        return None
    above, under = map(int, word.split("/"))
    return (above, under) if under > 1 and formed_pair(above, under) == (above, under) else None


def formed_pair(above, under):
    from fractions import Fraction
    return formed(Fraction(above, under))


def can_stand(kind, word):
    return number_in(word) is not None if kind == "number" else re.fullmatch(FORMS[kind], word) is not None


def kinds_for(words):
    """The kind of each item behind the first one, and whether it may be left out."""
    found = []
    for kind in KINDS[words[0]].split():
        found += [(kind.strip("?*"), kind[-1] in "?*")] * (399 if kind[-1] == "*" else 1)
    return found


def parted(line):
    """The items of a line, or the BadText of it."""
    if not isinstance(line, str):
        raise BadText(0, 0)
    words = line.split(" ")
    if words[0] not in KINDS:
        raise BadText(0, 0)
    kinds = kinds_for(words)
    for at, (kind, may_lack) in enumerate(kinds, start=1):
        if at >= len(words):
            if not may_lack:
                raise BadText(0, at)
            break
        if not can_stand(kind, words[at]):
            raise BadText(0, at)
    if words[0] in ("machine", "program"):
        if len(words) < 3:
            raise BadText(0, 2)
        try:
            (Machine if words[0] == "machine" else Program).read(" ".join(words[2:]))
        except BadText as error:
            raise BadText(0, error.item + 2)
    elif len(words) > len(kinds) + 1:
        raise BadText(0, len(kinds) + 1)
    return words


def written(number):
    return f"{number[0]}/{number[1]}" if isinstance(number, tuple) else str(number)


def spaced(numbers):
    return " ".join(map(written, numbers))


class Told:
    """A desk as the document tells it."""

    def __init__(self):
        self.kept = {}

    def tell(self, line):
        words = parted(line)
        kinds = [kind for kind, _ in kinds_for(words)]
        told = list(zip(words[1:], kinds))
        if kinds[:1] == ["new"] and words[1] in self.kept:
            raise Twice(words[1])
        names = [(word, kind) for word, kind in told if kind in ("machine", "program", "any")]
        for word, _ in names:
            if word not in self.kept:
                raise NoName(word)
        for word, kind in names:
            if kind != "any" and type(self.kept[word]).__name__.lower() != kind:
                raise Misfit("name")
        if kinds[:1] == ["new"]:
            kept = self.made(words)
            self.kept[words[1]] = kept
            return f"wide {kept.wide} pieces {len(kept.pieces)}" if isinstance(kept, Machine) else f"lines {len(kept.lines)}"
        return self.answer(words)

    def made(self, words):
        word, rest = words[0], words[2:]
        if word == "machine":
            return Machine.read(" ".join(rest))
        if word == "program":
            return Program.read(" ".join(rest))
        kept = self.kept[rest[0]]
        if word == "joined":
            return joined(kept, self.kept[rest[1]])
        if word == "moved":
            return moved(kept, list(map(int, rest[1:])))
        return {"led": lambda: machine_of(kept), "mirrored": lambda: mirrored(kept),
                "scaled": lambda: scaled(kept, int(rest[1]))}[word]()

    def answer(self, words):
        word, rest = words[0], words[1:]
        if word == "names":
            return " ".join(sorted(self.kept)) or "-"
        kept = self.kept[rest[0]]
        if word == "drop":
            del self.kept[rest[0]]
            return rest[0]
        if word == "text":
            return str(kept)
        if word == "course":
            stand = (int(rest[2]), *[None if item == "-" else int(item) for item in rest[3:]])
            told = judged_course(kept, stand, int(rest[1]))
            line, *boxes = told.stands[-1]
            return " ".join([str(line)] + ["-" if item is None else str(item) for item in boxes] + ["runs" if told else told.ending])
        return getattr(self, word)(kept, *[number_in(item) for item in rest[1:]])

    def next(self, kept, *point):
        return " / ".join(f"{number} {spaced(goal)}" for number, goal in nexts(kept, point)) or "-"

    def run(self, kept, steps, *point):
        way, points = first_run(kept, point, steps)
        return f"{spaced(points[-1])} {len(way)}"

    def tile(self, kept, piece, place, *point):
        return tile_text(kept, tile_at(kept, piece, point, place))

    def row(self, kept, piece, first, many, *point):
        return picture(kept, block_of(kept, point, [piece], first, many))[0]

    def living(self, kept, steps):
        return " / ".join(map(spaced, living(kept, steps))) or "-"

    def judge(self, kept, most, long):
        told = judged(kept, most, long)
        return f"dies {told.steps}" if told.word == "dies" else told.word

    def band(self, kept, *way):
        told = judged_band(kept, way)
        return "band" if told else f"gap {told.wide}"

    def round(self, kept, wide, *way):
        return judged_round(kept, way, wide).word
