"""A desk that keeps machines and programs by names, and answers lines."""

from timesfloor.desk_answers import NONE, answer_to, made_by, size_of
from timesfloor.desk_lines import read_line
from timesfloor.errors import Misfit, NoName, Twice
from timesfloor.programs import Program


class Desk:
    """Keeps machines and programs by names; it changes by the lines that it is told."""

    def __init__(self):
        self.kept = {}

    def tell(self, line):
        """Does what a line says, and returns the answer."""
        word, told = read_line(line)
        new = [value for form, value in told if form == "new"]
        if new and new[0] in self.kept:
            raise Twice(new[0])
        self.want_kept(told)
        if word == "names":
            return " ".join(sorted(list(self.kept))) if self.kept else NONE
        if word == "drop":
            name = told[0][1]
            del self.kept[name]
            return name
        values = [self.value_of(form, value) for form, value in told if form != "new"]
        if not new:
            return answer_to(word, values)
        made = made_by(word, values)
        self.kept[new[0]] = made
        return size_of(made)

    def want_kept(self, told):
        """Refuses names by which nothing is kept, and then those by which the wrong kind is."""
        named = [(form, value) for form, value in told if form in ("machine", "program", "any")]
        for _, name in named:
            if name not in self.kept:
                raise NoName(name)
        for form, name in named:
            if form != "any" and isinstance(self.kept[name], Program) != (form == "program"):
                raise Misfit("name")

    def value_of(self, form, value):
        """What stands for an item of a line: by a name what is kept by it."""
        return self.kept[value] if form in ("machine", "program", "any") else value
