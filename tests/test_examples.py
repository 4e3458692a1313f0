"""The examples of the document, word for word, for the points that have landed.

Point 10:

>>> from openfrozen.webs import look, place, reachable, trimmed
>>> web = ((("open", (("x", 1), ("y", (1,)))), ("frozen", (("z", 7),)), ("frozen", (("z", 7),))), (("a", 0), ("b", 0), ("c", 2)))
>>> [look(web, ("a", "y", "z")), look(web, ("c",)), look(web, ("c", "x")), place(web, ("b", "y")), reachable(web, "a")]
[7, ('frozen', ('z',)), 'none', 1, [0, 1]]

Point 11:

>>> from openfrozen.scripts import run
>>> web = ((("open", (("x", 1), ("y", (1,)))), ("frozen", (("z", 7),)), ("frozen", (("z", 7),))), (("a", 0), ("b", 0), ("c", 2)))
>>> run(web, [("set", ("a", "x"), 5), ("read", ("b", "x")), ("set", ("c", "z"), 1), ("set", ("b", "y"), ("a", "x"))])[0]
['done', 5, 'refused', 'done']
"""

import doctest
import sys


def load_tests(loader, tests, pattern):
    tests.addTests(doctest.DocTestSuite(sys.modules[__name__]))
    return tests
