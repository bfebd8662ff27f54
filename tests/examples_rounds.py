"""The examples of the document on checking bands, and on rounds; names go on from those on bands."""

CHECK_BANDS = """
>>> one = columns_of(twice, (0, 0))[5]
>>> [shows_band(twice, (0, 0), Band([one])), shows_band(twice, [0, 0], Band([one, list(one)])), shows_band(twice, (0, 0), Band([]))]
[True, True, False]
>>> [shows_band(twice, (0, 0), Gap(7)), shows_band(half_more, (0,) * 4, Gap(4)), shows_band(half_more, way=(0,) * 4, value=Gap(9))]
[False, False, True]
"""

ROUNDS = """
>>> flip, stay = line_machine([(0, -1, 1)]), line_machine([(1, (1, 2), (1, 2))])
>>> round_at(flip, ((1, 2),), [0]).parts
(2, (((0, (0,), (0,), (0,), (1,)), (0, (1,), (1,), (1,), (0,))),))
>>> [round_at(stay, (1,), [0]).parts, round_at(point=((1, 3),), machine=flip, way=(0, 0)).wide]
[(1, (((0, (1,), (0,), (1,), (0,)),),)), 3]
>>> [rounds_wide(flip, [0], 2), rounds_wide(flip, [0], 3), rounds_wide(flip, [0, 0], 2), rounds_wide(machine=stay, way=(0, 0), wide=60)]
[((1, 2),), (), (0, (1, 2), 1), (1,)]
>>> [bool(judged_round(flip, [0], 2)), judged_round(flip, (0,), 3) == Straight(3), judged_round(flip, [0], wide=4).wide]
[True, True, 4]
>>> both = Machine(2, [((0, 0), ((0, 1), (1, 0)), (0, 0))])
>>> [round_at(both, ((1, 2), 1), [0, 0]).wide, bool(judged_round(both, [0], 1))]
[2, True]
>>> round_at(flip, ((1, 3),), [0])
raises Misfit('point')
>>> rounds_wide(both, [0], 1)
raises Misfit('machine')
"""

CHECK_ROUNDS = """
>>> told = round_at(flip, ((1, 2),), [0])
>>> [shows_round(flip, [0], 2, told), shows_round(flip, [0], 4, Round(4, [told.block[0] * 2])), shows_round(flip, [0], 4, told), shows_round(flip, [0, 0], 2, told)]
[True, True, False, False]
>>> [shows_round(flip, [0], 3, Straight(3)), shows_round(flip, [0], 2, Straight(2)), shows_round(flip, [0], 2, Round(2, [told.block[0][::-1]])), shows_round(way=[0], wide=3, machine=flip, value=None)]
[True, False, True, False]
"""
