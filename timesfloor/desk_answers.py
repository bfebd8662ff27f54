"""What a desk makes of what it keeps, and what it answers."""

from timesfloor.bands import judged_band
from timesfloor.changes import joined, mirrored, moved, scaled
from timesfloor.courses import judged_course
from timesfloor.floors import block_of
from timesfloor.judged import Dies, judged
from timesfloor.leads import machine_of
from timesfloor.machines import Machine, nexts
from timesfloor.number_texts import number_text
from timesfloor.pictures import picture, tile_text
from timesfloor.rounds import judged_round
from timesfloor.runs import first_run
from timesfloor.stretches import living
from timesfloor.tiles import tile_at

NONE = "-"


def numbers_text(numbers):
    """The texts of numbers, one behind another."""
    return " ".join([number_text(number) for number in numbers])


def listed(texts):
    """Texts of points or stretches, one behind another."""
    return " / ".join(texts) if texts else NONE


def size_of(kept):
    """How wide a machine is and how many pieces it has, or how many lines a program has."""
    if isinstance(kept, Machine):
        return f"wide {kept.wide} pieces {len(kept.pieces)}"
    return f"lines {len(kept.lines)}"


def made_by(word, values):
    """What a line that keeps something makes of the values behind the name."""
    if word == "led":
        return machine_of(*values)
    if word == "moved":
        return moved(*values)
    if word == "mirrored":
        return mirrored(*values)
    if word == "scaled":
        return scaled(*values)
    if word == "joined":
        return joined(*values)
    # What is told by its text is made already.
    return values[0]


def text_line(kept):
    """The text of what is kept."""
    return str(kept)


def next_line(machine, point):
    """For each piece that holds a point its number, and where it leads it."""
    return listed([f"{number} {numbers_text(goal)}" for number, goal in nexts(machine, point)])


def run_line(machine, steps, point):
    """The last point of the first run of a point, and by how many pieces it went."""
    way, points = first_run(machine, point, steps)
    return f"{numbers_text(points[-1])} {len(way)}"


def tile_line(machine, piece, place, point):
    """The text of the tile at a place of the row of a point."""
    return tile_text(machine, tile_at(machine, piece, point, place))


def row_line(machine, piece, first, many, point):
    """The picture of the tiles at many places of the row of a point."""
    return picture(machine, block_of(machine, point, (piece,), first, many))[0]


def living_line(machine, steps):
    """The stretches of the numbers that make so many steps."""
    return listed([numbers_text(stretch) for stretch in living(machine, steps)])


def judge_line(machine, most, long):
    """What becomes of a machine."""
    told = judged(machine, most, long)
    return f"{told.word} {told.steps}" if Dies.is_one(told) else told.word


def band_line(machine, way):
    """Whether rows by a way can be laid endlessly, or how wide none can be."""
    told = judged_band(machine, way)
    return told.word if told else f"{told.word} {told.wide}"


def round_line(machine, wide, way):
    """Whether a block so wide by a way comes round."""
    return judged_round(machine, way, wide).word


def course_line(program, steps, stand):
    """The last stand of a course, and how it ends if it does."""
    told = judged_course(program, stand, steps)
    words = [NONE if item is None else number_text(item) for item in told.stands[-1]]
    return " ".join(words + [told.word if told else told.ending])


ANSWERS = {
    "text": text_line, "next": next_line, "run": run_line, "tile": tile_line, "row": row_line, "living": living_line,
    "judge": judge_line, "band": band_line, "round": round_line, "course": course_line,
}


def answer_to(word, values):
    """The answer to a line that asks about what is kept."""
    action = ANSWERS[word]
    return action(*values)
