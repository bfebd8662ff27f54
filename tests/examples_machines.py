"""The examples of the document on papers, machines, changes and runs; names go on from one to the next."""

PAPERS = """
>>> note = Paper("note", [1, (2, [3])])
>>> [note.parts, bool(note), bool(Denial("no")), note == Denial("note", [1, (2, [3])]), fixed([[], {"a": [1]}])]
[((1, (2, (3,))),), True, False, False, ((), {'a': [1]})]
"""

MACHINES = """
>>> line = line_machine([(1, 2, 0), (2, (2, 3), 0), (3, (2, 3), 0)])
>>> [str(line), line.pieces[1], line == Machine.read("1 / 1 2 0 / 2 2/3 0 / 3 2/3 0")]
['1 / 1 2 0 / 2 2/3 0 / 3 2/3 0', ((2,), (((2, 3),),), (0,)), True]
>>> [holds(line, 0, [2]), holds(line, 2, [2]), led(line, 0, [(4, 3)]), nexts(line, (2,)), nexts(line, [0])]
[True, False, ((8, 3),), ((0, (4,)), (1, ((4, 3),))), ()]
>>> cross = Machine(2, [([0, -1], [[0, 1], [(1, 2), 0]], [3, (1, 2)])])
>>> [str(cross), nexts(cross, ((1, 2), (-1, 3)))]
['2 / 0 -1 0 1 1/2 0 3 1/2', ((0, ((8, 3), (3, 4))),)]
>>> led(line, 2, [2])
raises Misfit('point')
>>> Machine.read("1 / 1 2 0 / 1 2 0")
raises BadText(0, 8)
>>> Machine.read("2 / 0 0 1 2 3")
raises BadText(0, 7)
>>> Machine(1, [((1001,), ((1,),), (0,))])
raises BadMachine('pieces')
"""

CHANGES = """
>>> [str(moved(line, [1])), str(mirrored(line)), mirrored(mirrored(line)) == line]
['1 / 2 2 -1 / 3 2/3 1/3 / 4 2/3 1/3', '1 / -2 2 0 / -3 2/3 0 / -4 2/3 0', True]
>>> [str(scaled(line_machine([(1, 2, (1, 2))]), 2)), joined(line, line_machine([(2, (2, 3), 0), (0, 1, 0)])).pieces[3]]
['1 / 2 2 1 / 3 2 1', ((0,), ((1,),), (0,))]
>>> str(moved(cross, (2, 0)))
'2 / 2 -1 0 1 1/2 0 5 -1/2'
>>> mirrored(line_machine([(1000, 1, 0)]))
raises Misfit('machine')
"""

RUNS = """
>>> judged_run(line, [1], [0, 0, 2]) == Goes([(1,), (2,), (4,), ((8, 3),)])
True
>>> [judged_run(line, (1,), (0, 2)).parts, judged_run(line, [0], [1]).parts]
[(1, (2,)), (0, (0,))]
>>> first_run(line, [1], 3)
((0, 0, 2), ((1,), (2,), (4,), ((8, 3),)))
>>> [first_run(line, [5], 3), through(line, [0, 0, 2]), through(cross, [0, 0])]
[((), ((5,),)), ((((8, 3),),), (0,)), ((((1, 2), 0), (0, (1, 2))), ((7, 2), 2))]
>>> judged_run(line, [1], [3])
raises BadWay('way')
"""

CHECK_RUNS = """
>>> [shows_run(line, [1], [0, 0], Goes([[1], [2], [4]])), shows_run(line, [1], [0, 2], Stops(1, [2])), shows_run(line, [1], [0, 2], Stops(True, [2]))]
[True, True, False]
"""
