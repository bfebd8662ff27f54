"""The examples of the document on what becomes of a machine, and on bands; they go on from those on stretches."""

JUDGED = """
>>> [judged(twice, 5, 2) == Dies(3), judged(half, 9, 1).steps, judged(flip, 3, 1).parts, bool(judged(flip, 3, 1))]
[True, 4, ((1, 2), (0,)), True]
>>> [judged(thirds, 5, 3).word, judged(thirds, 1, 3).parts, judged(half, 3, 8).word, bool(judged(half, 3, 8))]
['stays', (1, 3), 'unsure', False]
>>> judged(twice, 41, 0)
raises BadNumber('most')
"""

NEVERS = """
>>> [judged_never(thirds).prime, judged_never(line_machine([(1, 2, 0), (2, (1, 2), 0)])).word, judged_never(line_machine([(4, (-5, 6), 0), (1, (10, 9), 0)])).prime]
[2, 'maybe', 3]
>>> judged_never(half)
raises Misfit('machine')
"""

CHECK_JUDGED = """
>>> [shows_judged(thirds, 5, 3, Stays([(1, 4)])), shows_judged(thirds, 5, 3, Stays([(1, 2), (3, 4)])), shows_judged(flip, 5, 1, Stays([[(1, 4), (1, 3)], ((2, 3), (3, 4))]))]
[True, False, True]
>>> [shows_judged(flip, 1, 1, Returns((1, 5), [0, 0])), shows_judged(flip, 1, 1, Returns((1, 5), [0])), shows_judged(twice, 5, 1, Dies(4)), shows_judged(twice, 3, 1, Dies(4)), shows_judged(thirds, 1, 3, Unsure(1, 3)), shows_judged(thirds, 2, 3, value=Unsure(2, 3))]
[True, False, True, False, True, False]
>>> [shows_never(thirds, Never(2)), shows_never(thirds, Never(3)), shows_never(thirds, Maybe()), shows_never(machine=thirds, value=None)]
[True, False, False, False]
"""

BANDS = """
>>> twice = line_machine([(1, 2, 0)])
>>> [len(columns_of(twice, (0,))), columns_of(twice, [0])[0], len(columns_of(twice, (0, 0)))]
[6, ((0, (1,), (-1,), (2,), (-1,)),), 6]
>>> columns_of(machine=twice, way=(0, 0))[5]
((0, (1,), (0,), (2,), (0,)), (0, (2,), (0,), (4,), (0,)))
>>> told = judged_band(twice, (0, 0))
>>> [told.word, numbers_of(twice, told.columns), judged_band(twice, (0, 0, 0)) == Gap(1)]
['band', ((1,), (2,), (4,)), True]
>>> half_more = line_machine([(0, 1, (1, 2))])
>>> [bool(judged_band(half_more, (0, 0, 0))), len(columns_of(half_more, (0,) * 4)), judged_band(half_more, (0,) * 4) == Gap(wide=5)]
[True, 160, True]
>>> judged_band(twice, (1,))
raises BadWay('way')
>>> numbers_of(twice, [columns_of(twice, (0,))[1]])
raises BadBlock('columns')
"""
