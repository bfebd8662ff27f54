"""The examples of the document on programs, courses, and the machines of programs; they go on from those on rounds."""

PROGRAMS = """
>>> empty = Program([("test", 0, 2, 1), ("down", 0, 0), ("stop",)])
>>> [str(empty), empty == Program.read("test 0 2 1 / down 0 0 / stop"), empty.lines[2]]
['test 0 2 1 / down 0 0 / stop', True, ('stop',)]
>>> Program([("up", 0, 1)])
raises BadProgram('lines')
>>> Program.read("up 0 1")
raises BadText(0, 2)
>>> Program.read("up 2 0")
raises BadText(0, 1)
"""

COURSES = """
>>> [stepped(empty, [0, 2, 5]), stepped(empty, (1, None, 0)), stepped(empty, (1, 0, 0)), stepped(empty, (2, 0, 0))]
[(1, 2, 5), (0, None, 0), None, None]
>>> [judged_course(empty, (0, 1, 7), 2).parts, judged_course(empty, (0, 1, 7), 9).parts]
[(((0, 1, 7), (1, 1, 7), (0, 0, 7)),), ('stop', ((0, 1, 7), (1, 1, 7), (0, 0, 7), (2, 0, 7)))]
>>> judged_course(empty, (1, 0, None), 1) == Ends("fault", [(1, 0, None)])
True
>>> stepped(empty, (3, 0, 0))
raises BadStand('stand')
"""

CHECK_COURSES = """
>>> [shows_course(empty, (0, 1, 7), 1, Runs([[0, 1, 7], [1, 1, 7]])), shows_course(empty, (2, 0, 0), 1, Ends("stop", [(2, 0, False)]))]
[True, False]
"""

LEADS = """
>>> maker = machine_of(empty)
>>> str(maker)
'2 / 0 0 1 0 0 1 4 0 / 0 2 1 0 0 1 4 0 / 2 0 1 0 0 1 8 0 / 2 2 1 0 0 1 8 0 / 4 0 3 0 0 1 -12 0 / 4 2 3 0 0 1 -12 0'
>>> [point_of(empty, (0, 2, 0)), point_of(empty, (1, None, 1)), way_of(empty, (0, 2, 0), 9)]
[((1, 3), 3), (4, 1), (1, 5, 1, 5, 3)]
>>> judged_run(maker, point_of(empty, (0, 2, 0)), [1, 5]).points
(((1, 3), 3), ((13, 3), 3), (1, 3))
>>> [stand_of(empty, [1, 3]), stand_of(empty, [8, (1, 27)]), stand_of(empty, [(1, 2), 3]), stand_of(empty, [12, 3])]
[(0, 1, 0), (2, None, 4), None, None]
>>> [like_stand(empty, [(1, 2), 3]), like_stand(empty, [0, (9, 4)])]
[(0, 2, 0), (0, None, 0)]
>>> judged_run(maker, [(1, 2), 3], [1, 5, 1]).parts
(2, ((3, 2), 3))
>>> like_stand(empty, [(3, 2), 3])
raises Misfit('point')
>>> machine_of(Program([("stop",)]))
raises Misfit('program')
"""
