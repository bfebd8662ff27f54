"""The examples of the document on rows, tiles, floors and stretches; names go on from one to the next."""

ROWS = """
>>> [labels_of(((4, 3),), 1, 6), labels_of([[4, 3]], first=0, many=1), labels_of(((-4, 3),), 1, 3)]
[((1,), (1,), (2,), (1,), (1,), (2,)), ((2,),), ((-2,), (-1,), (-1,))]
>>> [label_at((5, (1, 2)), 2), label_at((5, (1, 2)), 3), label_at(point=((1, 3),), place=10 ** 30), label_at([(1, 3)], -1)]
[(5, 1), (5, 0), (0,), (0,)]
>>> [sum_of(((4, 3),), 1, 3), sum_of(((1, 2), -1), first=0, many=3), sum_of(((1, 3),), 1, 10 ** 9), sum_of((7,), 5, 0)]
[(4,), (2, -3), (333333333,), (0,)]
>>> [comes_again(((4, 3),)), comes_again(((1, 2), (2, 3))), comes_again([-5])]
[3, 6, 1]
>>> [told_back((1, 1, 2)), told_back([1, 1, 1]), told_back([0, 2]), told_back([-2])]
[((4, 3), (3, 2)), (1, (4, 3)), None, (-2, -1)]
>>> label_at((1, (2, 4)), 0)
raises BadPoint('point')
>>> labels_of((1,), 0, 2001)
raises BadNumber('many')
>>> told_back([])
raises BadNumber('labels')
"""

TILES = """
>>> two, turn = line_machine([(1, 2, 0)]), line_machine([(0, -1, 1)])
>>> [carries_of(two, 0), carries_of(turn, 0), carries_of(line_machine([(0, 1, (1, 2))]), 0)]
[((-1, 0),), ((0, 1),), (((-1, 2), 0, (1, 2)),)]
>>> tiles_of(two, 0)[:3]
((0, (1,), (-1,), (2,), (-1,)), (0, (1,), (0,), (3,), (-1,)), (0, (1,), (0,), (2,), (0,)))
>>> [tile[1:] for tile in tiles_of(two, 0)[3:]]
[((2,), (-1,), (4,), (-1,)), ((2,), (-1,), (3,), (0,)), ((2,), (0,), (4,), (0,))]
>>> [tile_at(two, 0, [(4, 3)], place) for place in (2, 3, 0)]
[(0, (1,), (0,), (3,), (-1,)), (0, (2,), (-1,), (3,), (0,)), (0, (2,), (-1,), (3,), (0,))]
>>> swap = Machine(2, [((0, 0), ((0, 1), (1, 0)), (0, 0))])
>>> [len(tiles_of(swap, 0)), tile_at(swap, 0, [(1, 2), (1, 3)], 3)]
[4, (0, (0, 1), (0, 0), (1, 0), (0, 0))]
>>> [is_tile(two, value) for value in ([0, [1], [0], [3], [-1]], (0, (1,), (0,), (1,), (1,)), (0, (1,), (0,), (3,)), (1, (1,), (0,), (2,), (0,)))]
[True, False, False, False]
>>> tile_at(two, 0, (3,), 1)
raises Misfit('point')
"""

FLOORS = """
>>> pair = line_machine([(1, 2, 0), (2, (2, 3), 0)])
>>> told = block_of(pair, [(4, 3)], [0, 1], 1, 3)
>>> [told[0] == tuple([tile_at(pair, 0, [(4, 3)], place) for place in (1, 2, 3)]), told[1][:2]]
[True, ((1, (2,), (0,), (1,), ((1, 3),)), (1, (3,), ((1, 3),), (2,), ((1, 3),)))]
>>> [judged_block(pair, told).averages, offs_of(pair, told), is_round(pair, told)]
[(((4, 3),), ((8, 3),), ((5, 3),)), ((0,), ((1, 9),)), False]
>>> half = block_of(turn, [(1, 2)], [0], 1, 2)
>>> [half, is_round(turn, half), judged_block(turn, half) == Fits([[(1, 2)], [(1, 2)]])]
[(((0, (0,), (0,), (0,), (1,)), (0, (1,), (1,), (1,), (0,))),), True, True]
>>> [judged_block(turn, [half[0], row]).parts for row in (half[0][::-1], [half[0][0], None], [(0, (0,), (0,), (1,), (0,))] * 2)]
[(1, 0, 'top'), (1, 1, 'tile'), (1, 1, 'top')]
>>> judged_block(turn, [half[0][:1] * 2]) == Clash(0, 1, "left")
True
>>> offs_of(turn, [half[0][:1] * 2])
raises Misfit('block')
>>> judged_block(turn, [])
raises BadBlock('block')
"""

CHECK_FLOORS = """
>>> [shows_block(pair, told, value) for value in (judged_block(pair, told), Fits([[(4, 3)], [(8, 3)], [(16, 9)]]), Clash(1, 0, "top"))]
[True, False, False]
>>> wrong = [half[0], [half[0][1], half[0][0]], [None, half[0][0]]]
>>> [shows_block(turn, wrong, Clash(row, place, part)) for row, place, part in ((1, 0, "top"), (2, 0, "tile"), (2, 1, "left"), (2, 1, "top"), (0, 0, "left"))]
[True, True, False, False, False]
"""

STRETCHES = """
>>> twice, half, flip = line_machine([(1, 2, 0)]), line_machine([(0, 1, (1, 2))]), line_machine([(0, -1, 1)])
>>> [stretch_of(twice, [0]), stretch_of(twice, (0, 0)), goal_of(twice, [0, 0]), stretch_of(twice, [0, 0, 0]), goal_of(machine=flip, way=[0])]
[(1, 2), (1, 1), (4, 4), None, (0, 1)]
>>> [living(twice, 1), living(twice, 2), living(twice, 3), [living(half, steps) for steps in (1, 2, 3, 4)]]
[((1, 2),), ((1, 1),), (), [((0, 1),), ((0, (1, 2)),), ((0, 0),), ()]]
>>> thirds = line_machine([(1, 2, 0), (2, (2, 3), 0), (3, (2, 3), 0)])
>>> [living(thirds, 5), ways_of(thirds, 2), ways_of(machine=half, steps=4)]
[((1, 4),), ((0, 0), (0, 1), (0, 2), (1, 0), (1, 1), (2, 0), (2, 1)), ()]
>>> [comebacks(flip, 1), comebacks(flip, 2), comebacks(twice, 1), comebacks(thirds, long=3)]
[(((0,), (1, 2), (1, 2)),), (((0, 0), 0, 1),), (), ()]
>>> pit = line_machine([(2, 0, (5, 2)), (0, 1, 3)])
>>> [stretch_of(pit, [0, 0]), goal_of(pit, [0, 0]), living(pit, 2), stretch_of(pit, [1, 0])]
[(2, 3), ((5, 2), (5, 2)), ((0, 0), (2, 3)), (0, 0)]
>>> living(twice, 61)
raises BadNumber('steps')
>>> stretch_of(twice, [1])
raises BadWay('way')
"""
