"""Points 3, 4, 8, 9 and 10: paths through webs, what is reachable, and trimmed webs."""

import copy
import itertools
import unittest

from openfrozen.errors import InvalidName, InvalidPath, InvalidWeb
from openfrozen.webs import is_web, look, place, reachable, trimmed
from tests.samples import NO_NAMES, NO_PATHS, NO_WEBS, RING, SELF, SMALLEST, UNREACHED, WEB, WEBS
from tests.samples import Model, Thing, largest, random_cases


class Look(unittest.TestCase):
    def test_integers(self):
        self.assertEqual(look(WEB, ("a", "x")), 1)
        self.assertEqual(look(WEB, ("a", "y", "z")), 7)
        self.assertEqual(look(SELF, ("b", "v")), -4)

    def test_zero_is_an_integer(self):
        web = ((("frozen", (("x", 0),)),), (("a", 0),))
        self.assertEqual([look(web, ("a", "x")), look(web, ("a", "x", "x")), place(web, ("a", "x"))], [0, "none", None])
        self.assertIs(type(look(web, ("a", "x"))), int)

    def test_objects(self):
        self.assertEqual(look(WEB, ("a",)), ("open", ("x", "y")))
        self.assertEqual(look(WEB, ("b", "y")), ("frozen", ("z",)))
        self.assertEqual(look(SMALLEST, ("a",)), ("open", ()))
        self.assertEqual(look(UNREACHED, ("p", "l")), ("frozen", ()))

    def test_rings(self):
        self.assertEqual(look(RING, ("a", "n", "n", "n", "n", "v")), 3)
        self.assertEqual(look(SELF, ("a",) + ("me",) * 63), ("open", ("me", "v")))
        self.assertEqual(look(SELF, ("a",) + ("me",) * 62 + ("v",)), -4)

    def test_nowhere(self):
        for path in [("d",), ("d", "x"), ("x",), ("a", "z"), ("c", "x"), ("a", "y", "x"), ("a", "q", "z"),
                     ("a", "x", "x"), ("a", "x", "z"), ("a", "y", "z", "z"), ("a", "x", "y", "z"), ("a", "a")]:
            with self.subTest(path):
                self.assertEqual(look(WEB, path), "none")
                self.assertIsNone(place(WEB, path))

    def test_a_field_is_not_a_beginning_of_a_field(self):
        web = ((("open", (("ab", 1), ("abc", 2))),), (("n", 0),))
        self.assertEqual([look(web, ("n", "ab")), look(web, ("n", "abc")), look(web, ("n", "a"))], [1, 2, "none"])

    def test_largest(self):
        web = largest()
        self.assertEqual(look(web, ("b", "abcdefgh", "n")), 999999999)
        self.assertEqual(look(web, ("b",) + ("zzzzzzzz",) * 62 + ("m",)), -999999999)
        self.assertEqual(look(web, ("zzzzzzzz",)), ("open", ("abcdefgh", "m", "n", "zzzzzzzz")))


class Place(unittest.TestCase):
    def test_objects(self):
        self.assertEqual([place(WEB, (word,)) for word in "abc"], [0, 0, 2])
        self.assertEqual(place(WEB, ("b", "y")), 1)
        self.assertEqual([place(RING, ("a",) + ("n",) * many) for many in range(5)], [0, 1, 2, 0, 1])
        self.assertEqual(place(SELF, ("a",) + ("me",) * 63), 0)
        self.assertEqual(place(largest(), ("b", "abcdefgh", "abcdefgh")), 29)

    def test_integers_have_no_place(self):
        self.assertIsNone(place(WEB, ("a", "x")))
        self.assertIsNone(place(WEB, ("a", "y", "z")))

    def test_random_paths(self):
        for web, _ in random_cases(60):
            model = Model(web)
            for many in range(4):
                for fields in itertools.product("fgz", repeat=many):
                    path = ("a",) + fields
                    value = model.leads_to(path)
                    number = model.things.index(value) if isinstance(value, Thing) else None
                    self.assertEqual(place(web, path), number)
                    self.assertEqual(look(web, path), model.do(("read", path)))


class Reachable(unittest.TestCase):
    def test_reachable(self):
        self.assertEqual([reachable(WEB, word) for word in "abc"], [[0, 1], [0, 1], [2]])
        self.assertEqual([reachable(RING, word) for word in "ab"], [[0, 1, 2], [0, 1, 2]])
        self.assertEqual(reachable(SELF, "b"), [0])
        self.assertEqual(reachable(SMALLEST, "a"), [0])
        self.assertEqual(reachable(UNREACHED, "p"), [1, 2])
        self.assertEqual(reachable(largest(), "c"), [0, 1, 29])

    def test_ascending(self):
        objects = (("open", ()), ("open", (("x", (3,)), ("y", (0,)))), ("open", ()), ("frozen", (("x", (1,)),)))
        self.assertEqual(reachable((objects, (("a", 3), ("b", 1))), "a"), [0, 1, 3])

    def test_paths_of_any_length(self):
        objects = tuple([("frozen", (("n", ((at + 7) % 30,)),)) for at in range(30)])
        self.assertEqual(reachable((objects, (("a", 11),)), "a"), list(range(30)))

    def test_the_list_belongs_to_the_caller(self):
        first = reachable(WEB, "a")
        first.append("more")
        first[0] = 9
        self.assertEqual(reachable(WEB, "a"), [0, 1])


class Trimmed(unittest.TestCase):
    def test_example_web(self):
        objects = (("open", (("x", 1), ("y", (2,)))), ("frozen", (("z", 7),)), ("frozen", (("z", 7),)))
        self.assertEqual(trimmed(WEB), (objects, (("a", 0), ("b", 0), ("c", 1))))

    def test_unreached_objects_go(self):
        self.assertEqual(trimmed(UNREACHED), ((("open", (("l", (1,)), ("r", (1,)))), ("frozen", ())), (("p", 0),)))

    def test_rings_stay(self):
        objects = (("frozen", (("n", (1,)),)), ("open", (("n", (2,)), ("v", 3))), ("frozen", (("n", (0,)),)))
        self.assertEqual(trimmed(RING), (objects, (("a", 0), ("b", 1))))
        self.assertEqual(trimmed(SELF), SELF)
        self.assertEqual(trimmed(SMALLEST), SMALLEST)

    def test_names_come_first(self):
        objects = (("open", (("x", 1),)), ("open", (("x", 2),)), ("open", (("x", (0,)),)))
        self.assertEqual(trimmed((objects, (("a", 2), ("b", 1)))), (
            (("open", (("x", (2,)),)), ("open", (("x", 2),)), ("open", (("x", 1),))), (("a", 0), ("b", 1))))

    def test_breadth_before_depth(self):
        # 4 leads to 1 and 3, 1 leads to 0, 3 leads to 2.
        objects = (("open", (("v", 0),)), ("open", (("n", (0,)), ("v", 1))), ("open", (("v", 2),)),
                   ("open", (("n", (2,)), ("v", 3))), ("open", (("l", (1,)), ("r", (3,)))))
        self.assertEqual(trimmed((objects, (("a", 4),))), (
            (("open", (("l", (1,)), ("r", (2,)))), ("open", (("n", (3,)), ("v", 1))), ("open", (("n", (4,)), ("v", 3))),
             ("open", (("v", 0),)), ("open", (("v", 2),))), (("a", 0),)))

    def test_order_of_the_fields(self):
        objects = (("frozen", (("v", 5),)), ("frozen", (("v", 6),)), ("open", (("l", (1,)), ("m", 0), ("r", (0,)))))
        self.assertEqual(trimmed((objects, (("a", 2),))), (
            (("open", (("l", (1,)), ("m", 0), ("r", (2,)))), ("frozen", (("v", 6),)), ("frozen", (("v", 5),))),
            (("a", 0),)))

    def test_integers_are_not_numbers_of_objects(self):
        objects = (("open", ()), ("open", (("x", 0), ("y", (0,)), ("z", 1))))
        self.assertEqual(trimmed((objects, (("a", 1),))), (
            (("open", (("x", 0), ("y", (1,)), ("z", 1))), ("open", ())), (("a", 0),)))

    def test_alike_objects_stay_apart(self):
        objects = (("frozen", ()), ("frozen", ()), ("open", (("x", (1,)), ("y", (0,)))))
        self.assertEqual(len(trimmed((objects, (("a", 2),)))[0]), 3)

    def test_thirty_objects(self):
        objects = tuple([("frozen", (("n", ((at + 29) % 30,)),)) for at in range(30)])
        self.assertEqual(trimmed((objects, (("a", 29), ("b", 0)))), (renamed_ring(), (("a", 0), ("b", 1))))

    def test_random_webs(self):
        for web, script in random_cases(200):
            small = trimmed(web)
            with self.subTest(web):
                self.assertTrue(is_web(small))
                self.assertEqual(trimmed(small), small)
                reached = {number for word, _ in web[1] for number in reachable(web, word)}
                self.assertEqual(len(small[0]), len(reached))
                one, two = Model(web), Model(small)
                for statement in script:
                    self.assertEqual(one.do(statement), two.do(statement))


def renamed_ring():
    """Return a ring of 30 objects as it is numbered from its objects 29 and 0 on: 0 leads to 2, 29 back to 1."""
    steps = [2, 0] + list(range(3, 30)) + [1]
    return tuple([("frozen", (("n", (number,)),)) for number in steps])


class Arguments(unittest.TestCase):
    def test_invalid_webs(self):
        for web in NO_WEBS:
            with self.subTest(web):
                for further in [("a",), "a", None, True, [], {}]:
                    with self.assertRaises(InvalidWeb):
                        look(web, further)
                    with self.assertRaises(InvalidWeb):
                        place(web, further)
                    with self.assertRaises(InvalidWeb):
                        reachable(web, further)
                with self.assertRaises(InvalidWeb):
                    trimmed(web)

    def test_invalid_paths(self):
        for path in NO_PATHS:
            with self.subTest(path):
                with self.assertRaises(InvalidPath):
                    look(WEB, path)
                with self.assertRaises(InvalidPath):
                    place(WEB, path)

    def test_invalid_names(self):
        for name in NO_NAMES:
            with self.subTest(name), self.assertRaises(InvalidName):
                reachable(WEB, name)

    def test_order_of_the_checks_by_name(self):
        with self.assertRaises(InvalidWeb):
            look(path=None, web=None)
        with self.assertRaises(InvalidWeb):
            place(path=None, web=None)
        with self.assertRaises(InvalidWeb):
            reachable(name=None, web=None)

    def test_by_name_in_another_order(self):
        self.assertEqual(look(path=("a", "x"), web=WEB), 1)
        self.assertEqual(place(path=("b", "y"), web=WEB), 1)
        self.assertEqual(reachable(name="c", web=WEB), [2])
        self.assertEqual(trimmed(web=SELF), SELF)

    def test_unknown_names_are_no_error_in_a_path(self):
        self.assertEqual(look(WEB, ("unknown", "x")), "none")

    def test_arguments_stay_as_they_were(self):
        for web in WEBS:
            before = copy.deepcopy(web)
            look(web, (web[1][0][0], "x"))
            place(web, (web[1][0][0], "x"))
            reachable(web, web[1][0][0])
            trimmed(web)
            is_web(web)
            self.assertEqual(web, before)

    def test_invalid_arguments_stay_as_they_were(self):
        web = [[["open", []]], {"a": [0]}]
        before = copy.deepcopy(web)
        with self.assertRaises(InvalidWeb):
            look(web, web)
        self.assertEqual(web, before)
