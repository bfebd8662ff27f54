"""Machines: pieces that tell where a point goes."""

from timesfloor.checks import is_list, is_within
from timesfloor.errors import BadMachine, Misfit
from timesfloor.machine_texts import piece_text, take_machine
from timesfloor.papers import fixed
from timesfloor.pieces import are_pieces, piece_holds, piece_leads
from timesfloor.reading import Items
from timesfloor.wants import want_point, want_within


class Machine:
    """A machine of width 1 or 2, with 1 to 60 unlike pieces (corner, rows, shift)."""

    def __init__(self, wide, pieces):
        if not is_within(wide, 1, 2):
            raise BadMachine("wide")
        if not are_pieces(pieces, wide):
            raise BadMachine("pieces")
        self.wide = wide
        self.pieces = fixed(pieces)

    def __eq__(self, other):
        return isinstance(other, Machine) and self.wide == other.wide and self.pieces == other.pieces

    def __str__(self):
        return " / ".join([str(self.wide)] + [piece_text(piece) for piece in self.pieces])

    @staticmethod
    def read(text):
        """The machine whose text this is."""
        wide, pieces = take_machine(Items(text))
        return Machine(wide, pieces)


def line_machine(triples):
    """The machine of width 1 with the pieces (n, q, r): corner n, row q, shift r."""
    if not is_list(triples, None, None) or not all([is_list(triple, 3, 3) for triple in triples]):
        raise BadMachine("triples")
    pieces = [((low,), ((factor,),), (more,)) for low, factor, more in triples]
    if not are_pieces(pieces, 1):
        raise BadMachine("triples")
    return Machine(1, pieces)


def want_machine(value, part):
    """Refuses what is no machine; part is the name of the parameter."""
    if not isinstance(value, Machine):
        raise BadMachine(part)


def want_held(machine, piece, point):
    """Refuses what are no machine, no piece and no point of it."""
    want_machine(machine, "machine")
    want_within(piece, 0, len(machine.pieces) - 1, "piece")
    want_point(point, machine.wide)


def holds(machine, piece, point):
    """Whether a piece, told by its number, holds a point."""
    want_held(machine, piece, point)
    return piece_holds(machine.pieces[piece], point)


def led(machine, piece, point):
    """Where a piece, told by its number, leads a point that it holds."""
    want_held(machine, piece, point)
    if not piece_holds(machine.pieces[piece], point):
        raise Misfit("point")
    return piece_leads(machine.pieces[piece], point)


def nexts(machine, point):
    """The pairs (number of a piece that holds a point, where it leads it)."""
    want_machine(machine, "machine")
    want_point(point, machine.wide)
    return tuple([(number, piece_leads(piece, point)) for number, piece in enumerate(machine.pieces)
                  if piece_holds(piece, point)])
