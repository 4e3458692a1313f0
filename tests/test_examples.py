r"""The examples of the document, word for word.

Point 10:

>>> from openfrozen.webs import look, place, reachable, trimmed
>>> web = ((("open", (("x", 1), ("y", (1,)))), ("frozen", (("z", 7),)), ("frozen", (("z", 7),))), (("a", 0), ("b", 0), ("c", 2)))
>>> [look(web, ("a", "y", "z")), look(web, ("c",)), look(web, ("c", "x")), place(web, ("b", "y")), reachable(web, "a")]
[7, ('frozen', ('z',)), 'none', 1, [0, 1]]

Point 11:

>>> from openfrozen.scripts import run
>>> web = ((("open", (("x", 1), ("y", (1,)))), ("frozen", (("z", 7),)), ("frozen", (("z", 7),))), (("a", 0), ("b", 0), ("c", 2)))
>>> run(web, [("set", ("a", "x"), 5), ("read", ("b", "x")), ("set", ("c", "z"), 1), ("set", ("b", "y"), ("a", "x"))])[0]
['done', 5, 'refused', 'done']

Point 12:

>>> from openfrozen.least import least
>>> web = ((("open", (("x", 1), ("y", (1,)))), ("frozen", (("z", 7),)), ("frozen", (("z", 7),))), (("a", 0), ("b", 0), ("c", 2)))
>>> least(web)
((('open', (('x', 1), ('y', (1,)))), ('frozen', (('z', 7),))), (('a', 0), ('b', 0), ('c', 1)))

>>> from openfrozen.least import difference, match, same
>>> one = ((("open", (("x", 0),)),), (("a", 0), ("b", 0)))
>>> two = ((("open", (("x", 0),)), ("open", (("x", 0),))), (("a", 0), ("b", 1)))
>>> [same(one, two), match(one, two), match(one, one), len(difference(one, two))]
[False, None, [(0, 0)], 2]

>>> from openfrozen.least import least, same
>>> ring = ((("frozen", (("n", (1,)),)), ("frozen", (("n", (0,)),))), (("a", 0),))
>>> least(ring)
((('frozen', (('n', (0,)),)),), (('a', 0),))

Point 13:

>>> from openfrozen.sharing import independent, separated, shared
>>> web = ((("open", (("x", 1), ("y", (1,)))), ("frozen", (("z", 7),)), ("frozen", (("z", 7),))), (("a", 0), ("b", 0), ("c", 2)))
>>> [shared(web, "a", "b"), independent(web, "a", "c"), separated(web, "a")]
[[0], True, ((('open', (('x', 1), ('y', (2,)))), ('open', (('x', 1), ('y', (2,)))), ('frozen', (('z', 7),))), (('a', 0), ('b', 1), ('c', 2)))]

Point 14:

>>> from openfrozen.copies import deep_copied, version
>>> web = ((("open", (("x", 1), ("y", (1,)))), ("frozen", (("z", 7),)), ("frozen", (("z", 7),))), (("a", 0), ("b", 0), ("c", 2)))
>>> [deep_copied(web, "b", ("a",)), version(web, "a", ("c", "z"), 8)]
[((('open', (('x', 1), ('y', (1,)))), ('frozen', (('z', 7),)), ('frozen', (('z', 7),)), ('open', (('x', 1), ('y', (1,))))), (('a', 0), ('b', 3), ('c', 2))), ((('open', (('x', 1), ('y', (1,)))), ('frozen', (('z', 7),)), ('frozen', (('z', 7),)), ('frozen', (('z', 8),))), (('a', 3), ('b', 0), ('c', 2)))]

Point 15:

>>> from openfrozen.texts import read, write
>>> web = read("a=1 b=0\nfrozen\nopen x=-3 y=#0")
>>> [web, write(web)]
[((('frozen', ()), ('open', (('x', -3), ('y', (0,))))), (('a', 1), ('b', 0))), 'a=1 b=0\nfrozen\nopen x=-3 y=#0']

Point 16:

>>> from openfrozen.runner import Runner
>>> runner = Runner.of_text("a=0 b=0\nopen x=1")
>>> answer = runner.do(("set", ("a", "x"), 2))
>>> [runner[("b", "x")], ("a", "y") in runner, len(runner), list(runner.paths(2))]
[2, False, 1, [('a',), ('b',), ('a', 'x'), ('b', 'x')]]

Point 17:

>>> from openfrozen.runner import StillRunner
>>> runner = StillRunner(((("open", (("x", 1),)),), (("a", 0),)))
>>> answers = runner.run([("set", ("a", "x"), 2), ("set", ("a", "y"), 2)])
>>> [answers, runner.refusals]
[['refused', 'none'], 1]

Point 18:

>>> from openfrozen.scripts import run
>>> from openfrozen.least import same
>>> from openfrozen.talks import taken_back
>>> web = ((("open", (("x", 0),)), ("open", (("x", 0),))), (("a", 0), ("b", 1)))
>>> script = [("set", ("a", "x"), 5), ("name", "b", ("b",))]
>>> back = taken_back(web, script)
>>> [same(run(run(web, script)[1], back)[1], web), taken_back(web, [("name", "b", ("a",))])]
[True, None]

>>> from openfrozen.talks import heard
>>> web = ((("frozen", (("f", (3,)),)), ("frozen", (("g", (3,)), ("h", (4,)))), ("frozen", (("k", (4,)),)), ("open", (("v", 0),)), ("open", (("v", 0),))), (("a", 0), ("b", 1), ("c", 2)))
>>> [len(heard(web, "a", "b")), len(heard(web, "a", "c"))]
[2, 3]
"""

import doctest
import sys


def load_tests(loader, tests, pattern):
    tests.addTests(doctest.DocTestSuite(sys.modules[__name__]))
    return tests
