"""The examples of the document, word for word, for the points that have landed.

Point 10:

>>> from openfrozen.webs import look, place, reachable, trimmed
>>> web = ((("open", (("x", 1), ("y", (1,)))), ("frozen", (("z", 7),)), ("frozen", (("z", 7),))), (("a", 0), ("b", 0), ("c", 2)))
>>> [look(web, ("a", "y", "z")), look(web, ("c",)), look(web, ("c", "x")), place(web, ("b", "y")), reachable(web, "a")]
[7, ('frozen', ('z',)), 'none', 1, [0, 1]]

Point 11:

>>> from openfrozen.scripts import run
>>> web = ((("open", (("x", 1), ("y", (1,)))), ("frozen", (("z", 7),)), ("frozen", (("z", 7),))), (("a", 0), ("b", 0), ("c", 2)))
>>> run(web, [("set", ("a", "x"), 5), ("read", ("b", "x")), ("set", ("c", "z"), 1), ("set", ("b", "y"), ("a", "x"))])[0]
['done', 5, 'refused', 'done']

Point 12:

>>> from openfrozen.least import least
>>> web = ((("open", (("x", 1), ("y", (1,)))), ("frozen", (("z", 7),)), ("frozen", (("z", 7),))), (("a", 0), ("b", 0), ("c", 2)))
>>> least(web)
((('open', (('x', 1), ('y', (1,)))), ('frozen', (('z', 7),))), (('a', 0), ('b', 0), ('c', 1)))

>>> from openfrozen.least import difference, match, same
>>> one = ((("open", (("x", 0),)),), (("a", 0), ("b", 0)))
>>> two = ((("open", (("x", 0),)), ("open", (("x", 0),))), (("a", 0), ("b", 1)))
>>> [same(one, two), match(one, two), match(one, one), len(difference(one, two))]
[False, None, [(0, 0)], 2]

>>> from openfrozen.least import least, same
>>> ring = ((("frozen", (("n", (1,)),)), ("frozen", (("n", (0,)),))), (("a", 0),))
>>> least(ring)
((('frozen', (('n', (0,)),)),), (('a', 0),))

Point 13:

>>> from openfrozen.sharing import independent, separated, shared
>>> web = ((("open", (("x", 1), ("y", (1,)))), ("frozen", (("z", 7),)), ("frozen", (("z", 7),))), (("a", 0), ("b", 0), ("c", 2)))
>>> [shared(web, "a", "b"), independent(web, "a", "c"), separated(web, "a")]
[[0], True, ((('open', (('x', 1), ('y', (2,)))), ('open', (('x', 1), ('y', (2,)))), ('frozen', (('z', 7),))), (('a', 0), ('b', 1), ('c', 2)))]

Point 18:

>>> from openfrozen.scripts import run
>>> from openfrozen.least import same
>>> from openfrozen.talks import taken_back
>>> web = ((("open", (("x", 0),)), ("open", (("x", 0),))), (("a", 0), ("b", 1)))
>>> script = [("set", ("a", "x"), 5), ("name", "b", ("b",))]
>>> back = taken_back(web, script)
>>> [same(run(run(web, script)[1], back)[1], web), taken_back(web, [("name", "b", ("a",))])]
[True, None]

>>> from openfrozen.talks import heard
>>> web = ((("frozen", (("f", (3,)),)), ("frozen", (("g", (3,)), ("h", (4,)))), ("frozen", (("k", (4,)),)), ("open", (("v", 0),)), ("open", (("v", 0),))), (("a", 0), ("b", 1), ("c", 2)))
>>> [len(heard(web, "a", "b")), len(heard(web, "a", "c"))]
[2, 3]
"""

import doctest
import sys


def load_tests(loader, tests, pattern):
    tests.addTests(doctest.DocTestSuite(sys.modules[__name__]))
    return tests
