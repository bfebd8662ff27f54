"""The examples of the document on pictures, desks and scripts; they go on from those on the machines of programs."""

PICTURES = """
>>> pair = line_machine([(1, 2, 0), (2, (2, 3), 0)])
>>> [picture(pair, block_of(pair, [(4, 3)], [0, 1], 1, 6)), picture(pair, [[tile_at(pair, 1, [2], 5)]])]
[('..#..#', '.##.##'), ('.',)]
>>> [tile_text(pair, tile_at(pair, 0, [(4, 3)], 2)), tile_of(pair, "1 2 0 1 1/3")]
['0 1 0 3 -1', (1, (2,), (0,), (1,), ((1, 3),))]
>>> swap = Machine(2, [((0, 0), ((0, 1), (1, 0)), (0, 0))])
>>> [picture(swap, block_of(swap, [(1, 2), (1, 3)], [0], 1, 6)), tile_text(swap, tile_at(swap, 0, [(1, 2), (1, 3)], 3))]
[('.-:-.#',), '0 0 1 0 0 1 0 0 0']
>>> tile_of(pair, "0 1 0 1 1")
raises BadText(0, 4)
"""

DESKS = """
>>> desk = Desk()
>>> [desk.tell(line) for line in ("machine a 1 / 1 2 0 / 2 2/3 0 / 3 2/3 0", "next a 2", "run a 3 1", "tile a 0 2 4/3", "row a 0 1 6 4/3")]
['wide 1 pieces 3', '0 4 / 1 4/3', '8/3 3', '0 1 0 3 -1', '..#..#']
>>> [desk.tell(line) for line in ("living a 5", "judge a 5 3", "judge a 1 3", "band a 0 1", "band a 0 0 0", "round a 1 0", "next a 9")]
['1 4', 'stays', 'unsure', 'band', 'gap 1', 'straight', '-']
>>> [desk.tell(line) for line in ("program p test 0 2 1 / down 0 0 / stop", "led m p", "course p 2 0 1 7", "course p 9 0 1 -", "mirrored b a", "drop b", "names")]
['lines 3', 'wide 2 pieces 6', '0 0 7 runs', '2 0 - stop', 'wide 1 pieces 3', 'b', 'a m p']
>>> desk.tell("machine c 1 / 1 2")
raises BadText(0, 6)
>>> desk.tell("next p 1")
raises Misfit('name')
>>> desk.tell("machine a 1 / 0 1 0")
raises Twice('a')
"""

SCRIPTS = """
>>> played(["machine half 1 / 0 1 1/2", "judge half 9 1", "names"])
('wide 1 pieces 1', 'dies 4', 'half')
>>> played(["names", "drop some"])
raises BadLine
"""
