"""Columns of tiles, one below another by a way; whether there are too many is told ahead of making them."""

from timesfloor.sides import many_below, many_with, tiles_below, tiles_with, tops_of

MOST_COLUMNS = 4000


def counts_down(tiling, way):
    """For each row of a way, and one behind it, how many columns go on from each top; None stands for any top.

    More than MOST_COLUMNS are counted as one more.
    """
    counts = [None]
    for number in way[::-1]:
        sides = tiling.sides(number)
        here = {}
        for top in tops_of(tiling.pieces[number]):
            if counts[-1] is None:
                many = many_with(sides, top)
            else:
                many = sum([count * many_below(sides, top, bottom) for bottom, count in counts[-1].items()])
            here[top] = min(many, MOST_COLUMNS + 1)
        counts.append(here)
    return counts[::-1]


def going_on(tiling, number, top, counts):
    """The tiles of a piece with a top from which columns go on, by lefts and then rights."""
    sides = tiling.sides(number)
    if counts is None:
        return tiles_with(number, sides, top)
    bottoms = [bottom for bottom, count in counts.items() if count > 0 and many_below(sides, top, bottom) > 0]
    return tiles_below(number, sides, top, bottoms)


def next_row(tiling, number, tiles, counts):
    """The tiles of a piece below some tiles, those below one tile side by side, and the places of these above them."""
    known = {}
    found = []
    places = []
    for place, tile in enumerate(tiles):
        top = tile[3]
        if top not in known:
            known[top] = going_on(tiling, number, top, counts)
        found.extend(known[top])
        places.extend([place] * len(known[top]))
    return found, places


def laid_columns(tiling, way, counts):
    """All columns of a way, by their first tiles, then their second ones, and so on."""
    tops = tops_of(tiling.pieces[way[0]])
    tiles = [tile for top in tops for tile in going_on(tiling, way[0], top, counts[1])]
    rows = [(tiles, None)]
    for down, number in enumerate(way[1:], start=2):
        tiles, places = next_row(tiling, number, tiles, counts[down])
        rows.append((tiles, places))
    # From the last row up each column is followed by the places above it, so that no column is copied on the way.
    at = list(range(len(tiles)))
    laid = []
    for tiles, places in rows[::-1]:
        laid.append([tiles[place] for place in at])
        if places is not None:
            at = [places[place] for place in at]
    laid = laid[::-1]
    return tuple(zip(*laid))


def ends_of(columns):
    """For each column a pair of integers, for its left carries and for its right ones, alike where these are."""
    known = {}
    found = []
    for column in columns:
        left = tuple([tile[2] for tile in column])
        right = tuple([tile[4] for tile in column])
        found.append((known.setdefault(left, len(known)), known.setdefault(right, len(known))))
    return found


def widths_of(ends):
    """The pair of lists, for the carries between columns: how many columns can lie ahead, and how many are left over.

    Behind what is left over there is a round; if nothing is, each number is the greatest one.
    """
    many = max([max(pair) for pair in ends], default=-1) + 1
    leaving = [[] for _ in range(many)]
    entering = [0] * many
    for left, right in ends:
        leaving[left].append(right)
        entering[right] += 1
    widths = [0] * many
    ready = [carries for carries in range(many) if entering[carries] == 0]
    while ready:
        carries = ready.pop()
        for right in leaving[carries]:
            widths[right] = max(widths[right], widths[carries] + 1)
            entering[right] -= 1
            if entering[right] == 0:
                ready.append(right)
    return widths, entering


def round_in(ends, entering):
    """The numbers of columns that make a round, one ahead of the next one, where some carries are left over."""
    # Whatever lies behind carries that are left over is left over, too.
    before = {}
    for number, (left, right) in enumerate(ends):
        if entering[left] > 0:
            before[right] = number
    carries = min(list(before.keys()))
    met = {}
    path = []
    while carries not in met:
        met[carries] = len(path)
        path.append(before[carries])
        carries = ends[before[carries]][0]
    return path[met[carries]:][::-1]
