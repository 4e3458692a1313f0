"""Points 2, 8, 9 and 14: copies, deep copies, frozen objects and new versions of frozen structures."""

import copy
import itertools
import random
import time
import unittest

from openfrozen.copies import copied, deep_copied, frozen, version
from openfrozen.errors import InvalidName, InvalidPath, InvalidValue, InvalidWeb, NoObject, NotFrozen, TooLarge
from openfrozen.least import least, same
from openfrozen.scripts import run
from openfrozen.sharing import independent
from openfrozen.webs import is_web, look, place, trimmed
from tests.samples import NO_NAMES, NO_PATHS, NO_WEBS, RING, SELF, SMALLEST, UNREACHED, WEB, WEBS
from tests.samples import Model, changeable, dense_web, largest, leading_paths, met, names_of, only, pure_numbers
from tests.samples import random_cases, random_statement, row, still_split

# A ring 0, 1, 3 with a changeable object and a frozen one, pure objects 2 and 4, and 5, which no name reaches.
PARTS = ((("open", (("l", (1,)), ("r", (2,)))), ("frozen", (("n", (3,)), ("o", (4,)))), ("frozen", (("n", (4,)),)),
          ("open", (("n", (0,)),)), ("frozen", (("v", 7),)), ("open", (("x", (0,)),))),
         (("a", 0), ("b", 2), ("c", 0)))
# Frozen objects that go on to an open one; a ring of frozen objects; an open object without fields.
STILL = ((("frozen", (("n", (1,)), ("v", 1))), ("frozen", (("n", (0,)), ("o", (2,)), ("p", (3,)))),
          ("open", (("n", (0,)), ("v", 5))), ("open", ())), (("a", 0), ("b", 2), ("c", 3)))
# What is neither an integer nor a path.
NO_VALUES = [None, True, False, 10 ** 9, -10 ** 9, 10 ** 40, "a", "", (), ("A",), ("a", 1), (0,), ("a",) * 65, ["a"],
             [], {}, {"a": 1}, (("a",),), [[[[[[[[[[None]]]]]]]]]]]


def some_webs(many):
    """Yield webs of all sorts, the same ones in every run."""
    chance = random.Random(21)
    yield from WEBS + [PARTS, STILL]
    for web, _ in random_cases(many):
        yield web
    for _ in range(many):
        yield dense_web(chance, names=chance.choice(["a", "ab", "abc", "abcdef"]))


def renamed(web, name, number):
    """Return the names of the web, of which one stands for another number."""
    return tuple([(word, number if word == name else old) for word, old in web[1]])


def in_order(objects, number):
    """Return the numbers of the objects that are reachable from the object, breadth-first."""
    order = [number]
    for here in order:
        for _, value in objects[here][1]:
            if isinstance(value, tuple) and value[0] not in order:
                order.append(value[0])
    return order


def plain_deep_copied(web, name, path):
    """Return the objects and names of the web with the deep copy; there may be too many objects for a web."""
    objects = list(web[0])
    start = place(web, path)
    pure = pure_numbers(web)
    sources = [number for number in in_order(web[0], start) if number not in pure]
    copies = dict(zip(sources, itertools.count(len(objects))))
    for source in sources:
        fields = [(word, (copies.get(value[0], value[0]),) if isinstance(value, tuple) else value)
                  for word, value in web[0][source][1]]
        objects.append((web[0][source][0], tuple(fields)))
    return tuple(objects), renamed(web, name, copies.get(start, start))


def plain_version(web, name, path, value):
    """Return the objects and names of the web with the new version; there may be too many objects for a web."""
    objects = list(web[0])
    here = dict(web[1])[path[0]]
    led = value if isinstance(value, int) else Model(web).leads_to(value)
    if not isinstance(led, int):
        led = (place(web, value),)
    for word in path[1:]:
        fields = dict(web[0][here][1])
        here = fields[word][0] if isinstance(fields[word], tuple) else None
        fields[word] = (len(objects) + 1,)
        objects.append(("frozen", fields))
    objects[-1][1][path[-1]] = led
    items = [(kind, tuple(sorted(fields.items())) if isinstance(fields, dict) else fields) for kind, fields in objects]
    return tuple(items), renamed(web, name, len(web[0]))


def object_paths(web, most):
    return [path for path in leading_paths(web, most) if place(web, path) is not None]


def raised(function, *arguments):
    """Return the result, or the class of the error that is raised with the path that it holds."""
    try:
        return function(*arguments)
    except (NoObject, NotFrozen, TooLarge) as error:
        return type(error), getattr(error, "path", "no path")


class Copied(unittest.TestCase):
    def test_objects(self):
        self.assertEqual(copied(WEB, "c", ("a",)), (WEB[0] + (WEB[0][0],), (("a", 0), ("b", 0), ("c", 3))))
        self.assertEqual(copied(WEB, "a", ("b", "y")), (WEB[0] + (WEB[0][1],), (("a", 3), ("b", 0), ("c", 2))))
        self.assertEqual(copied(WEB, "b", ("b",)), (WEB[0] + (WEB[0][0],), (("a", 0), ("b", 3), ("c", 2))))

    def test_references_to_itself_lead_to_the_old_one(self):
        self.assertEqual(copied(SELF, "a", ("a",)), (SELF[0] * 2, (("a", 1), ("b", 0))))
        after = copied(SELF, "a", ("b", "me", "me"))
        self.assertEqual([place(after, ("a",)), place(after, ("a", "me")), place(after, ("b",))], [1, 0, 0])
        script = [("set", ("a", "v"), 9), ("read", ("b", "v")), ("read", ("a", "me", "v"))]
        self.assertEqual(run(after, script)[0], ["done", -4, -4])

    def test_pure_objects_are_copied_too(self):
        self.assertEqual(copied(SMALLEST, "a", ("a",)), (SMALLEST[0] * 2, (("a", 1),)))
        self.assertEqual(copied(PARTS, "a", ("b",)), (PARTS[0] + (PARTS[0][2],), (("a", 6), ("b", 2), ("c", 0))))

    def test_objects_keep_their_numbers_where_no_name_reaches_them(self):
        self.assertEqual(copied(UNREACHED, "p", ("p", "l")), (UNREACHED[0] + (("frozen", ()),), (("p", 3),)))
        self.assertEqual(copied(RING, "b", ("b",)), (RING[0] + (RING[0][1],), (("a", 0), ("b", 3))))

    def test_all_webs(self):
        for web in some_webs(60):
            for name, path in itertools.product(names_of(web), object_paths(web, 3)[:20]):
                with self.subTest(web=web, name=name, path=path):
                    if len(web[0]) == 30:
                        self.assertEqual(raised(copied, web, name, path), (TooLarge, "no path"))
                        continue
                    after = copied(web, name, path)
                    item = web[0][place(web, path)]
                    self.assertEqual(after, (web[0] + (item,), renamed(web, name, len(web[0]))))
                    self.assertTrue(is_web(after))

    def test_thirty_objects(self):
        names = (("a", 0), ("b", 1))
        for kind in ["open", "frozen"]:
            self.assertEqual(len(copied((row(29, kind, kind=kind), names), "a", ("b",))[0]), 30)
            web = (row(30, kind, kind=kind), names)
            for path in [("a",), ("b",), ("b", "n")]:
                self.assertEqual(raised(copied, web, "a", path), (TooLarge, "no path"))
            self.assertEqual(raised(copied, web, "a", ("b", "q")), (NoObject, ("b", "q")))

    def test_thirty_pure_objects(self):
        web = ((("frozen", ()),) * 30, (("a", 0),))
        self.assertEqual(raised(copied, web, "a", ("a",)), (TooLarge, "no path"))


class DeepCopied(unittest.TestCase):
    def test_rings_and_pure_parts(self):
        new = (("open", (("l", (7,)), ("r", (2,)))), ("frozen", (("n", (8,)), ("o", (4,)))), ("open", (("n", (6,)),)))
        for path in [("a",), ("c",), ("a", "l", "n", "n")]:
            self.assertEqual(deep_copied(PARTS, "b", path), (PARTS[0] + new, (("a", 0), ("b", 6), ("c", 0))))

    def test_beginning_elsewhere_in_the_ring(self):
        new = (("frozen", (("n", (7,)), ("o", (4,)))), ("open", (("n", (8,)),)), ("open", (("l", (6,)), ("r", (2,)))))
        self.assertEqual(deep_copied(PARTS, "a", ("c", "l")), (PARTS[0] + new, (("a", 6), ("b", 2), ("c", 0))))

    def test_frozen_objects_that_lead_to_changeable_ones(self):
        after = deep_copied(RING, "a", ("a",))
        new = (("frozen", (("n", (4,)),)), ("open", (("n", (5,)), ("v", 3))), ("frozen", (("n", (3,)),)))
        self.assertEqual(after, (RING[0] + new, (("a", 3), ("b", 1))))

    def test_an_object_that_refers_to_itself(self):
        self.assertEqual(deep_copied(SELF, "b", ("a",)), (SELF[0] + (("open", (("me", (1,)), ("v", -4))),),
                                                          (("a", 0), ("b", 1))))

    def test_an_object_is_copied_once(self):
        web = ((("open", (("l", (1,)), ("m", (1,)), ("r", (0,)))), ("open", (("x", 0),))), (("a", 0), ("b", 0)))
        new = (("open", (("l", (3,)), ("m", (3,)), ("r", (2,)))), ("open", (("x", 0),)))
        self.assertEqual(deep_copied(web, "b", ("a",)), (web[0] + new, (("a", 0), ("b", 2))))

    def test_breadth_before_depth(self):
        # 4 leads to 1 and 3, 1 leads to 0, 3 leads to 2.
        objects = (("open", (("v", 0),)), ("open", (("n", (0,)), ("v", 1))), ("open", (("v", 2),)),
                   ("open", (("n", (2,)), ("v", 3))), ("open", (("l", (1,)), ("r", (3,)))))
        new = (("open", (("l", (6,)), ("r", (7,)))), ("open", (("n", (8,)), ("v", 1))), ("open", (("n", (9,)), ("v", 3))),
               ("open", (("v", 0),)), ("open", (("v", 2),)))
        self.assertEqual(deep_copied((objects, (("a", 4), ("b", 0))), "b", ("a",)), (objects + new, (("a", 4), ("b", 5))))

    def test_pure_objects_are_met_but_not_copied(self):
        # The pure object 1 comes first and takes no number; 2 is met behind 3 only.
        objects = (("open", (("a", (1,)), ("b", (3,)))), ("frozen", ()), ("open", (("v", (1,)),)), ("frozen", (("n", (2,)),)))
        new = (("open", (("a", (1,)), ("b", (5,)))), ("frozen", (("n", (6,)),)), ("open", (("v", (1,)),)))
        self.assertEqual(deep_copied((objects, (("a", 0),)), "a", ("a",)), (objects + new, (("a", 4),)))

    def test_a_pure_object_stays(self):
        self.assertEqual(deep_copied(PARTS, "a", ("b",)), (PARTS[0], (("a", 2), ("b", 2), ("c", 0))))
        self.assertEqual(deep_copied(PARTS, "c", ("a", "l", "o")), (PARTS[0], (("a", 0), ("b", 2), ("c", 4))))
        self.assertEqual(deep_copied(SMALLEST, "a", ("a",)), SMALLEST)
        self.assertEqual(deep_copied(STILL, "a", ("c",)), (STILL[0], (("a", 3), ("b", 2), ("c", 3))))
        frozen_ring = (row(3), (("a", 0), ("b", 2)))
        self.assertEqual(deep_copied(frozen_ring, "a", ("b",)), (row(3), (("a", 2), ("b", 2))))

    def test_no_pure_object_is_too_large(self):
        for objects in [row(30), (("frozen", ()),) * 30, (("open", ()),) * 30]:
            web = (objects, (("a", 0), ("b", 29)))
            self.assertEqual(deep_copied(web, "a", ("b",)), (objects, (("a", 29), ("b", 29))))
        web = (row(29) + (("open", (("x", 0),)),), (("a", 29), ("b", 5)))
        self.assertEqual(deep_copied(web, "a", ("b", "n")), (web[0], (("a", 6), ("b", 5))))
        self.assertEqual(raised(deep_copied, web, "a", ("a",)), (TooLarge, "no path"))

    def test_thirty_objects(self):
        for many, error in [(14, False), (15, False), (16, True), (30, True)]:
            for kind in ["open", "frozen"]:
                web = (row(many, "open", kind=kind), (("a", 0), ("b", 1)))
                if error:
                    self.assertEqual(raised(deep_copied, web, "b", ("a",)), (TooLarge, "no path"))
                    self.assertEqual(raised(deep_copied, web, "b", ("a", "q")), (NoObject, ("a", "q")))
                else:
                    self.assertEqual(len(deep_copied(web, "b", ("a",))[0]), 2 * many)

    def test_thirty_objects_of_which_some_are_pure(self):
        for pure, changing, error in [(28, 1, False), (29, 1, True), (26, 2, False), (27, 2, True), (10, 10, False),
                                      (11, 10, True)]:
            # Each changeable object leads to the next one and to the first pure one.
            objects = row(pure, last=0)
            for at in range(changing):
                objects += (("open", (("n", (pure + (at + 1) % changing,)), ("p", (0,)))),)
            found = raised(deep_copied, (objects, (("a", pure),)), "a", ("a",))
            if error:
                self.assertEqual(found, (TooLarge, "no path"))
            else:
                self.assertEqual([len(found[0]), found[1]], [pure + 2 * changing, (("a", pure + changing),)])

    def test_all_webs(self):
        sizes = []
        for web in some_webs(80):
            for name, path in itertools.product(names_of(web), object_paths(web, 3)[:20]):
                with self.subTest(web=web, name=name, path=path):
                    expected = plain_deep_copied(web, name, path)
                    if len(expected[0]) > 30:
                        self.assertEqual(raised(deep_copied, web, name, path), (TooLarge, "no path"))
                        continue
                    after = deep_copied(web, name, path)
                    self.assertEqual(after, expected)
                    self.assertTrue(is_web(after))
                    self.assertEqual(after[0][:len(web[0])], web[0])
                    sizes.append(len(after[0]) - len(web[0]))
        self.assertGreater(min(sizes.count(0), sizes.count(1), sizes.count(2), sizes.count(3)), 20)

    def test_the_copy_is_independent_and_looks_the_same(self):
        for web in some_webs(60):
            for name, path in itertools.product(names_of(web), object_paths(web, 2)[:10]):
                after = raised(deep_copied, web, name, path)
                if after[0] is TooLarge:
                    continue
                with self.subTest(web=web, name=name, path=path):
                    others = [word for word in names_of(web) if word != name]
                    self.assertTrue(all(independent(after, name, other) for other in others))
                    self.assertIs(same(only(after, [name]), (web[0], ((name, place(web, path)),))), True)
                    if others:
                        self.assertIs(same(only(after, others), only(web, others)), True)

    def test_what_is_set_in_the_copy_stays_there(self):
        after = deep_copied(PARTS, "b", ("a",))
        script = [("set", ("b", "l", "n", "n"), 5), ("set", ("b", "r"), ("b",)), ("read", ("a", "l", "n", "n")),
                  ("read", ("c", "r")), ("read", ("b", "l", "n", "n"))]
        self.assertEqual(run(after, script)[0], ["done", "done", ("open", ("l", "r")), ("frozen", ("n",)), 5])


class Frozen(unittest.TestCase):
    def test_example_web(self):
        objects = (("frozen", (("x", 1), ("y", (1,)))),) + WEB[0][1:]
        self.assertEqual([frozen(WEB, ("a",)), frozen(WEB, ("b",))], [(objects, WEB[1])] * 2)
        self.assertEqual([frozen(WEB, ("c",)), frozen(WEB, ("a", "y"))], [WEB, WEB])

    def test_open_objects_without_fields_stay_open(self):
        self.assertEqual(frozen(SMALLEST, ("a",)), SMALLEST)
        objects = STILL[0][:2] + (("frozen", STILL[0][2][1]), ("open", ()))
        for path in [("a",), ("b",), ("a", "n", "o"), ("b", "n", "n")]:
            self.assertEqual(frozen(STILL, path), (objects, STILL[1]))
        self.assertEqual(frozen(STILL, ("c",)), STILL)

    def test_only_what_is_reachable(self):
        objects = (("open", (("n", (1,)),)), ("open", (("n", (2,)),)), ("frozen", (("n", (3,)),)), ("open", (("n", (1,)),)))
        web = (objects, (("a", 0), ("b", 3)))
        still = tuple([("frozen", fields) for _, fields in objects])
        self.assertEqual(frozen(web, ("b",)), (objects[:1] + still[1:], web[1]))
        self.assertEqual(frozen(web, ("a", "n", "n")), (objects[:1] + still[1:], web[1]))
        self.assertEqual(frozen(web, ("a",)), (still, web[1]))

    def test_unreached_objects_stay_as_they_are(self):
        objects = UNREACHED[0][:2] + (("frozen", UNREACHED[0][2][1]),)
        self.assertEqual(frozen(UNREACHED, ("p",)), (objects, UNREACHED[1]))

    def test_thirty_objects(self):
        for first, kind in [("open", "open"), ("open", "frozen"), ("frozen", "frozen")]:
            web = (row(30, first, kind=kind), (("a", 17), ("b", 0)))
            self.assertEqual(frozen(web, ("a",)), (row(30), web[1]))

    def test_all_webs(self):
        for web in some_webs(80):
            for path in object_paths(web, 3)[:20]:
                with self.subTest(web=web, path=path):
                    reached = met(web[0], [place(web, path)])
                    expected = [("frozen", item[1]) if at in reached and changeable(item) else item
                                for at, item in enumerate(web[0])]
                    after = frozen(web, path)
                    self.assertEqual(after, (tuple(expected), web[1]))
                    self.assertTrue(is_web(after))
                    self.assertEqual(frozen(after, path), after)
                    answers = run(after, [("set", path + fields, 1) for fields in [("f",), ("g",), ("h", "f")]])[0]
                    self.assertNotIn("done", answers)


class Version(unittest.TestCase):
    def test_example_web(self):
        after = (WEB[0] + (("frozen", (("z", 8),)),), (("a", 3), ("b", 0), ("c", 2)))
        self.assertEqual(version(WEB, "a", ("c", "z"), 8), after)
        after = (WEB[0] + (("frozen", (("z", (0,)),)),), (("a", 0), ("b", 0), ("c", 3)))
        self.assertEqual(version(WEB, "c", ("c", "z"), ("b",)), after)

    def test_values(self):
        for value, led in [(0, 0), (-999999999, -999999999), (999999999, 999999999), (("a",), (0,)), (("b", "x"), 1),
                           (("b", "y"), (1,)), (("c",), (2,)), (("a", "y", "z"), 7), (("c", "z"), 7)]:
            after = version(WEB, "b", ("c", "z"), value)
            self.assertEqual(after, (WEB[0] + (("frozen", (("z", led),)),), (("a", 0), ("b", 3), ("c", 2))))

    def test_a_new_object_for_each_field(self):
        after = version(STILL, "b", ("a", "n", "p"), 8)
        new = (("frozen", (("n", (5,)), ("v", 1))), ("frozen", (("n", (0,)), ("o", (2,)), ("p", 8))))
        self.assertEqual(after, (STILL[0] + new, (("a", 0), ("b", 4), ("c", 3))))

    def test_the_field_may_hold_what_is_open(self):
        new = (("frozen", (("n", (5,)), ("v", 1))), ("frozen", (("n", (0,)), ("o", (3,)), ("p", (3,)))))
        self.assertEqual(version(STILL, "a", ("a", "n", "o"), ("c",)), (STILL[0] + new, (("a", 4), ("b", 2), ("c", 3))))
        new = new[:1] + (("frozen", (("n", (0,)), ("o", (2,)), ("p", (2,)))),)
        self.assertEqual(version(STILL, "a", ("a", "n", "p"), ("b",)), (STILL[0] + new, (("a", 4), ("b", 2), ("c", 3))))

    def test_objects_that_are_met_several_times(self):
        web = ((("frozen", (("n", (0,)), ("v", 1))),), (("a", 0), ("b", 0)))
        new = (("frozen", (("n", (2,)), ("v", 1))), ("frozen", (("n", (3,)), ("v", 1))), ("frozen", (("n", (0,)), ("v", 9))))
        self.assertEqual(version(web, "b", ("a", "n", "n", "v"), 9), (web[0] + new, (("a", 0), ("b", 1))))
        new = new[:2] + (("frozen", (("n", 9), ("v", 1))),)
        self.assertEqual(version(web, "a", ("b", "n", "n", "n"), 9), (web[0] + new, (("a", 1), ("b", 0))))

    def test_the_value_is_what_is_meant_in_the_given_web(self):
        # The path's own name stands for something else afterwards, but not for the value.
        web = ((("frozen", (("n", (0,)), ("v", 1))),), (("a", 0),))
        self.assertEqual(version(web, "a", ("a", "n"), ("a",)), (web[0] * 2, (("a", 1),)))
        self.assertEqual(version(web, "a", ("a", "v"), ("a",)),
                         (web[0] + (("frozen", (("n", (0,)), ("v", (0,)))),), (("a", 1),)))
        self.assertEqual(version(web, "a", ("a", "n", "v"), ("a", "n", "v"))[0][2], web[0][0])

    def test_names(self):
        """The name of the path need not be the name that stands for the version."""
        for name, path in itertools.product("abc", [("c", "z")]):
            after = version(WEB, name, path, 0)
            self.assertEqual(after[1], renamed(WEB, name, 3))

    def test_thirty_objects(self):
        web = ((("frozen", (("n", (0,)), ("v", 1))),), (("a", 0),))
        for many, error in [(1, False), (28, False), (29, False), (30, True), (62, True), (63, True)]:
            path = ("a",) + ("n",) * (many - 1) + ("v",)
            if error:
                self.assertEqual(raised(version, web, "a", path, 5), (TooLarge, "no path"))
            else:
                after = version(web, "a", path, 5)
                self.assertEqual(len(after[0]), 1 + many)
                self.assertEqual([look(after, path), look(after, path[:-1] + ("n", "v"))], [5, 1])
        for size, error in [(28, False), (29, True), (30, True)]:
            web = (row(size), (("a", 0), ("b", 3)))
            found = raised(version, web, "b", ("a", "n", "n"), 5)
            self.assertEqual(found[0] is TooLarge, error)

    def test_all_webs(self):
        done = []
        for web in some_webs(120):
            for path in leading_paths(web, 4)[:60]:
                if len(path) < 2:
                    continue
                for name, value in zip(itertools.cycle(names_of(web)), [4, ("a",), ("b", "f"), ("c", "n"), ("a", "r")]):
                    with self.subTest(web=web, name=name, path=path, value=value):
                        expected = self.expected(web, name, path, value)
                        self.assertEqual(raised(version, web, name, path, value), expected)
                        done.append(expected[0] if isinstance(expected[0], type) else len(path))
        for kind in [NoObject, NotFrozen, 2, 3, 4]:
            self.assertGreater(done.count(kind), 30)

    def expected(self, web, name, path, value):
        """Return the result, or the error with its path, for a path that leads somewhere."""
        if isinstance(value, tuple) and look(web, value) == "none":
            return NoObject, value
        for at in range(1, len(path)):
            if look(web, path[:at])[0] == "open":
                return NotFrozen, path[:at]
        if len(web[0]) + len(path) > 31:
            return TooLarge, "no path"
        return plain_version(web, name, path, value)

    def test_reads_of_the_version(self):
        """Everything behind the name reads as before, but for what goes on from the value."""
        for web in some_webs(80):
            fields = sorted({word for _, pairs in web[0] for word, _ in pairs})
            for path, value in itertools.product(leading_paths(web, 3)[:20], [4, ("a",), ("b",)]):
                after = raised(version, web, "a", path, value) if len(path) > 1 and "a" in names_of(web) else (NoObject,)
                if isinstance(after[0], type):
                    continue
                for many in range(4):
                    for rest in itertools.product(fields, repeat=many):
                        old = look(web, path[:1] + rest)
                        if rest[:len(path) - 1] == path[1:]:
                            old = self.behind(web, value, rest[len(path) - 1:])
                        self.assertEqual(look(after, ("a",) + rest), old, (web, path, value, rest))
                others = [word for word in names_of(web) if word != "a"]
                self.assertTrue(not others or same(only(after, others), only(web, others)))

    def behind(self, web, value, rest):
        if isinstance(value, tuple):
            return look(web, value + rest)
        return "none" if rest else value


class NoObjects(unittest.TestCase):
    def test_paths_that_lead_to_no_object(self):
        for path in [("d",), ("d", "x"), ("a", "x"), ("a", "q"), ("a", "y", "z"), ("c", "x"), ("a", "x", "x"), ("q",) * 64]:
            for function, arguments in [(copied, (WEB, "a", path)), (deep_copied, (WEB, "b", path)), (frozen, (WEB, path))]:
                self.assertEqual(raised(function, *arguments), (NoObject, path))

    def test_before_too_large(self):
        web = largest()
        for function in [copied, deep_copied]:
            self.assertEqual(raised(function, web, "b", ("b", "m")), (NoObject, ("b", "m")))
            self.assertEqual(raised(function, web, "b", ("q",)), (NoObject, ("q",)))
            self.assertEqual(raised(function, web, "b", ("b",)), (TooLarge, "no path"))
        self.assertEqual(raised(frozen, web, ("b", "m")), (NoObject, ("b", "m")))


class VersionErrors(unittest.TestCase):
    def told(self, web, path, value, error, held):
        with self.subTest(web=web, path=path, value=value):
            self.assertEqual(raised(version, web, names_of(web)[0], path, value), (error, held))

    def test_the_path_without_its_last_entry(self):
        for path in [("d", "x"), ("a", "q"), ("c", "q"), ("c", "z", "q"), ("a", "x", "x"), ("a", "q", "x"), ("d", "x", "y"),
                     ("c", "q", "z"), ("d",) * 64, ("c",) + ("z",) * 63, ("a", "y", "z", "z")]:
            # Later conditions are broken, too: the value leads nowhere, the path goes through what is open.
            for value in [1, ("c",), ("d",), ("a", "q"), ("c", "z", "z")]:
                self.told(WEB, path, value, NoObject, path[:-1])

    def test_the_value(self):
        for value in [("d",), ("a", "q"), ("a", "x", "x"), ("c", "z", "z"), ("q",) * 64]:
            for path in [("c", "z"), ("a", "x"), ("a", "y"), ("a", "y", "z")]:
                self.told(WEB, path, value, NoObject, value)
            # Both paths are too long for the result, too.
            self.told(STILL, ("a",) + ("n",) * 63, value, NoObject, value)

        self.told(largest(), ("abcdefgh", "m"), ("a",), NoObject, ("a",))

    def test_what_is_open(self):
        for path, value, held in [(("a", "x"), 1, ("a",)), (("b", "y"), ("c",), ("b",)), (("a", "y", "z"), 1, ("a",))]:
            self.told(WEB, path, value, NotFrozen, held)
        for path, held in [(("b", "v"), ("b",)), (("a", "n", "o", "v"), ("a", "n", "o")), (("b", "n", "v"), ("b",)),
                           (("a", "n", "o", "n", "n", "o", "v"), ("a", "n", "o")),
                           (("a", "n", "n", "n", "o", "n"), ("a", "n", "n", "n", "o"))]:
            self.told(STILL, path, 3, NotFrozen, held)
            self.told(STILL, path, ("a", "v"), NotFrozen, held)

    def test_what_is_open_before_too_large(self):
        path = ("a",) + ("n",) * 41 + ("o",) + ("n",) * 20
        self.told(STILL, path, 3, NotFrozen, path[:43])
        self.told(STILL, ("a",) + ("n",) * 63, 3, TooLarge, "no path")
        self.told(largest(), ("abcdefgh", "m"), 3, NotFrozen, ("abcdefgh",))
        self.told(largest(), ("b", "abcdefgh", "m"), 3, NotFrozen, ("b", "abcdefgh"))
        self.told(largest(), ("b", "m"), 3, TooLarge, "no path")
        self.told(largest(), ("b", "abcdefgh"), 3, TooLarge, "no path")


class LookingTheSame(unittest.TestCase):
    """The last sentence of point 2: what looks the same before looks the same afterwards."""

    def calls(self, chance, web):
        """Yield functions with the arguments behind the web."""
        paths = leading_paths(web, 3)
        for _ in range(6):
            name, path = chance.choice(names_of(web)), chance.choice(paths)
            value = chance.choice([0, 5, chance.choice(paths), chance.choice(paths) + ("f",)])
            yield copied, (name, path)
            yield deep_copied, (name, path)
            yield frozen, (path,)
            if len(path) > 1:
                yield version, (name, path, value)

    def test_before_and_after(self):
        chance = random.Random(22)
        seen = []
        for web in some_webs(120):
            for other in [still_split(chance, web), least(web), trimmed(web)]:
                for function, arguments in self.calls(chance, web):
                    with self.subTest(function=function.__name__, web=web, other=other, arguments=arguments):
                        one, two = raised(function, web, *arguments), raised(function, other, *arguments)
                        if TooLarge in (one[0], two[0]):
                            continue
                        if isinstance(one[0], type):
                            self.assertEqual(one, two)
                        else:
                            self.assertIs(same(one, two), True)
                            self.assertEqual(least(one), least(two))
                            seen.append((function, web == other))
        for function in [copied, deep_copied, frozen, version]:
            self.assertGreater(seen.count((function, False)), 50)

    def test_scripts_afterwards(self):
        chance = random.Random(23)
        for web in some_webs(60):
            other = still_split(chance, web)
            for function, arguments in self.calls(chance, web):
                one, two = raised(function, web, *arguments), raised(function, other, *arguments)
                if not isinstance(one[0], type) and not isinstance(two[0], type):
                    script = [random_statement(chance) for _ in range(30)]
                    self.assertEqual(run(one, script)[0], run(two, script)[0])

    def test_pure_objects_that_are_copied_look_the_same(self):
        # A deep copy and a copy of a pure object look the same: nothing can tell that it was not copied.
        for web, name, path in [(PARTS, "a", ("b",)), (STILL, "a", ("c",)), (WEB, "a", ("c",)), (SMALLEST, "a", ("a",)),
                                ((row(5), (("a", 0), ("b", 3))), "a", ("b", "n"))]:
            self.assertIs(same(copied(web, name, path), deep_copied(web, name, path)), True)

    def test_too_large_for_one_of_them_only(self):
        objects = row(29, last=0) + (("frozen", (("n", 0),)),)
        web = (objects, (("a", 28), ("b", 29)))
        self.assertIs(same(web, least(web)), True)
        self.assertEqual(raised(copied, web, "a", ("b",)), (TooLarge, "no path"))
        self.assertEqual(len(copied(least(web), "a", ("b",))[0]), 2)


class Arguments(unittest.TestCase):
    def fails(self, error, function, *arguments):
        with self.subTest(function=function.__name__, arguments=arguments), self.assertRaises(error):
            function(*arguments)

    def test_invalid_webs(self):
        for web in NO_WEBS:
            for name, path, value in [("a", ("a",), 1), ("d", ("a",), 1), (None, None, None), ([], {}, []), ("a", ("d",), ())]:
                self.fails(InvalidWeb, copied, web, name, path)
                self.fails(InvalidWeb, deep_copied, web, name, path)
                self.fails(InvalidWeb, frozen, web, path)
                self.fails(InvalidWeb, version, web, name, path, value)

    def test_invalid_names(self):
        for name in NO_NAMES:
            for path, value in [(("a",), 1), (("d",), None), (None, 1), ("a", ()), (("c", "z"), 1), ([], [])]:
                self.fails(InvalidName, copied, WEB, name, path)
                self.fails(InvalidName, deep_copied, WEB, name, path)
                self.fails(InvalidName, version, WEB, name, path, value)
            self.fails(InvalidName, copied, (row(30), (("a", 0), ("b", 0), ("c", 0))), name, ("a",))

    def test_invalid_paths(self):
        for path in NO_PATHS:
            self.fails(InvalidPath, copied, WEB, "a", path)
            self.fails(InvalidPath, deep_copied, WEB, "a", path)
            self.fails(InvalidPath, frozen, WEB, path)
            self.fails(InvalidPath, copied, largest(), "b", path)
            for value in [1, ("c",), None, [], ("d",), True]:
                self.fails(InvalidPath, version, WEB, "a", path, value)

    def test_paths_of_one_entry(self):
        for path in [("a",), ("c",), ("d",)]:
            for value in [1, ("a",), ("d",)] + NO_VALUES:
                self.fails(InvalidPath, version, WEB, "a", path, value)

    def test_invalid_values(self):
        for value in NO_VALUES:
            # Later conditions are broken, too: the path leads nowhere, or through what is open, or is too long.
            for web, path in [(WEB, ("c", "z")), (WEB, ("d", "z")), (WEB, ("a", "x")), (WEB, ("c", "q")),
                              (STILL, ("a",) + ("n",) * 63)]:
                self.fails(InvalidValue, version, web, "a", path, value)

    def test_by_name_in_another_order(self):
        self.assertEqual(copied(path=("a",), name="c", web=WEB), copied(WEB, "c", ("a",)))
        self.assertEqual(deep_copied(name="c", path=("a",), web=WEB), deep_copied(WEB, "c", ("a",)))
        self.assertEqual(frozen(path=("a",), web=WEB), frozen(WEB, ("a",)))
        self.assertEqual(version(value=8, path=("c", "z"), name="b", web=WEB), version(WEB, "b", ("c", "z"), 8))
        with self.assertRaises(InvalidWeb):
            version(value=None, path=None, name=None, web=None)
        with self.assertRaises(InvalidName):
            version(value=None, path=None, name=None, web=WEB)

    def test_arguments_stay_as_they_were(self):
        for web in some_webs(20):
            paths = leading_paths(web, 2)
            before = copy.deepcopy((web, paths))
            for path in paths[:10]:
                raised(copied, web, names_of(web)[0], path), raised(deep_copied, web, names_of(web)[0], path)
                raised(frozen, web, path)
                if len(path) > 1:
                    raised(version, web, names_of(web)[0], path, path)
            self.assertEqual((web, paths), before)
        value = [["a"], {"a": [1]}]
        before = copy.deepcopy(value)
        self.fails(InvalidValue, version, WEB, "a", ("c", "z"), value)
        self.assertEqual(value, before)

    def test_large_webs_take_less_than_a_second(self):
        names = tuple([(word, at) for at, word in enumerate("abcdef")])
        for objects in [row(30, "open"), row(30, "open", kind="open"), row(30), largest()[0], row(15, "open"), row(29)]:
            web = (objects, names)
            field = objects[0][1][0][0]
            for function, arguments in [(copied, ("a", ("b",))), (deep_copied, ("a", ("b",))), (frozen, (("b",),)),
                                        (version, ("a", ("b",) + (field,) * 63, ("c",) + (field,) * 63))]:
                start = time.perf_counter()
                raised(function, web, *arguments)
                self.assertLess(time.perf_counter() - start, 1)
