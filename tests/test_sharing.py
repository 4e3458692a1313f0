"""Points 2, 8, 9 and 13: shared objects, independent names, witnesses and separated webs."""

import copy
import itertools
import random
import time
import unittest

from openfrozen.errors import InvalidName, InvalidWeb, TooLarge
from openfrozen.least import least, same
from openfrozen.scripts import run
from openfrozen.sharing import independent, separated, shared, witness
from openfrozen.webs import is_script, is_web, look, trimmed
from tests.samples import NO_NAMES, NO_WEBS, RING, SELF, SMALLEST, UNREACHED, WEB, WEBS
from tests.samples import all_answers, all_paths, changeable, dense_web, largest, least_size, met_by, met_by_all
from tests.samples import names_of, numbered, only, pure_numbers, random_cases, random_path, row, still_split, tiny_webs


def some_webs(many):
    """Yield webs of all sorts, the same ones in every run."""
    chance = random.Random(12)
    yield from WEBS
    for web, _ in random_cases(many):
        yield web
    for _ in range(many):
        yield dense_web(chance, names=chance.choice(["a", "ab", "abc", "abcdef"]))


def plainly_shared(web, name, other):
    return sorted(number for number in met_by(web, name) & met_by(web, other) if changeable(web[0][number]))


class Shared(unittest.TestCase):
    def test_example_web(self):
        pairs = [("a", "a"), ("a", "b"), ("b", "a"), ("a", "c"), ("c", "b"), ("c", "c")]
        self.assertEqual([shared(WEB, *pair) for pair in pairs], [[0], [0], [0], [], [], []])
        self.assertEqual([independent(WEB, *pair) for pair in pairs], [False, False, False, True, True, True])

    def test_open_objects_without_fields_are_not_changeable(self):
        web = ((("open", (("x", (1,)),)), ("open", ())), (("a", 0), ("b", 1), ("c", 1)))
        self.assertEqual([shared(web, "a", "b"), shared(web, "b", "c"), shared(web, "a", "a")], [[], [], [0]])
        self.assertIs(independent(SMALLEST, "a", "a"), True)

    def test_frozen_objects_are_not_changeable(self):
        web = (row(3), (("a", 0), ("b", 2)))
        self.assertEqual([shared(web, "a", "b"), independent(web, "a", "b"), independent(web, "a", "a")], [[], True, True])

    def test_behind_frozen_objects(self):
        self.assertEqual([shared(RING, "a", "b"), shared(RING, "b", "a"), shared(SELF, "a", "b")], [[1], [1], [0]])
        web = ((("frozen", (("f", (1,)),)), ("open", (("x", 0),)), ("frozen", (("g", (1,)),))), (("a", 0), ("b", 2)))
        self.assertEqual([shared(web, "a", "b"), shared(web, "a", "a")], [[1], [1]])

    def test_ascending(self):
        objects = (("open", (("x", 0),)), ("frozen", (("l", (3,)), ("r", (0,)))), ("open", (("x", 0),)),
                   ("open", (("x", (2,)),)))
        self.assertEqual(shared((objects, (("a", 1), ("b", 1))), "a", "b"), [0, 2, 3])

    def test_one_name_twice(self):
        self.assertEqual([shared(largest(), "b", "b"), shared(largest(), "c", "c")], [[29], [1, 29]])
        self.assertEqual(shared(UNREACHED, "p", "p"), [2])

    def test_all_webs(self):
        seen = []
        for web in some_webs(100):
            for name, other in itertools.product(names_of(web), repeat=2):
                with self.subTest(web=web, name=name, other=other):
                    expected = plainly_shared(web, name, other)
                    self.assertEqual(shared(web, name, other), expected)
                    self.assertIs(independent(web, name, other), not expected)
                    seen.append(not expected)
            for name in names_of(web):
                pure = set(pure_numbers(web))
                self.assertIs(independent(web, name, name), met_by(web, name) <= pure)
        self.assertGreater(min(seen.count(True), seen.count(False)), 100)

    def test_no_script_of_sets_is_heard_by_an_independent_name(self):
        chance = random.Random(1)
        for web, _ in random_cases(200):
            for name, other in itertools.permutations(names_of(web), 2):
                if independent(web, name, other):
                    script = [("set", (name,) + random_path(chance, 2)[1:],
                               chance.choice([5, (name,) + random_path(chance)[1:]])) for _ in range(10)]
                    after = run(web, script)[1]
                    for path in all_paths(other, "fghi", 4):
                        self.assertEqual(look(web, path), look(after, path))


class Witness(unittest.TestCase):
    def is_heard(self, web, name, other):
        script = witness(web, name, other)
        with self.subTest(web=web, name=name, other=other, script=script):
            self.assertTrue(is_script(script))
            self.assertEqual([statement[0] for statement in script], ["set", "read"])
            self.assertEqual([script[0][1][0], script[1][1][0]], [name, other])
            self.assertIs(type(script[0][2]), int)
            self.assertNotEqual(run(web, script)[0][1], look(web, script[1][1]))

    def test_none(self):
        for web, name, other in [(WEB, "a", "c"), (WEB, "c", "c"), (SMALLEST, "a", "a"), ((row(3), (("a", 0),)), "a", "a")]:
            self.assertIsNone(witness(web, name, other))

    def test_whatever_the_field_holds(self):
        for value in list(range(-20, 100)) + [999999999, -999999999, (0,), (1,), (2,)]:
            objects = (("open", (("x", value),)), ("frozen", ()), ("open", ()))
            for names in itertools.product("ab", repeat=2):
                self.is_heard((objects, (("a", 0), ("b", 0))), *names)

    def test_rings(self):
        for web in [RING, SELF, (row(30, first="open", kind="open"), (("a", 0), ("b", 17))),
                    (row(30, first="open"), (("a", 1), ("b", 29))),
                    (row(30, last=0, kind="open", first="open"), (("a", 0), ("b", 3)))]:
            for names in itertools.product("ab", repeat=2):
                self.is_heard(web, *names)

    def test_one_leads_to_the_other(self):
        web = ((("open", (("n", (1,)),)), ("open", (("n", (2,)),)), ("open", (("n", (0,)),))), (("a", 0), ("b", 1)))
        for names in itertools.product("ab", repeat=2):
            self.is_heard(web, *names)

    def test_all_webs(self):
        for web in some_webs(100):
            for name, other in itertools.product(names_of(web), repeat=2):
                if plainly_shared(web, name, other):
                    self.is_heard(web, name, other)
                else:
                    self.assertIsNone(witness(web, name, other))


class Separated(unittest.TestCase):
    def test_example_web(self):
        item = ("open", (("x", 1), ("y", (2,))))
        self.assertEqual(separated(WEB, "a"), ((item, item, ("frozen", (("z", 7),))), (("a", 0), ("b", 1), ("c", 2))))
        self.assertEqual(separated(WEB, "b"), separated(WEB, "a"))
        self.assertEqual(separated(WEB, "c"), least(WEB))

    def test_no_other_name(self):
        for web in [SMALLEST, UNREACHED, (row(30, first="open"), (("q", 3),)), (row(30), (("q", 3),))]:
            self.assertEqual(separated(web, web[1][0][0]), least(web))

    def test_independent_names(self):
        web = ((("open", (("x", 0),)), ("open", (("x", 0),)), ("frozen", ()), ("frozen", ())),
               (("a", 1), ("b", 0), ("c", 3), ("d", 2)))
        for name in "abcd":
            self.assertEqual(separated(web, name), least(web))

    def test_the_given_name_comes_in_its_place(self):
        objects = (("open", (("n", (1,)),)), ("frozen", ()))
        names = (("a", 0), ("b", 0), ("c", 0))
        item = ("open", (("n", (2,)),))
        self.assertEqual(separated((objects, names), "a"), ((item, item, objects[1]), (("a", 0), ("b", 1), ("c", 1))))
        self.assertEqual(separated((objects, names), "b"), ((item, item, objects[1]), (("a", 0), ("b", 1), ("c", 0))))
        self.assertEqual(separated((objects, names), "c"), ((item, item, objects[1]), (("a", 0), ("b", 0), ("c", 1))))

    def test_frozen_objects_over_changeable_ones_are_doubled(self):
        objects = (("frozen", (("n", (1,)),)), ("open", (("n", (0,)),)))
        web = (objects, (("a", 0), ("b", 0)))
        self.assertEqual(separated(web, "b"), ((("frozen", (("n", (2,)),)), ("frozen", (("n", (3,)),)),
                                                ("open", (("n", (0,)),)), ("open", (("n", (1,)),))), (("a", 0), ("b", 1))))

    def test_pure_objects_are_shared(self):
        # The two frozen rings are alike, whichever of them the names lead to.
        rings = (("frozen", (("n", (1,)),)), ("frozen", (("n", (0,)),)), ("frozen", (("n", (2,)),)))
        tops = (("open", (("x", (0,)),)), ("open", (("x", (2,)),)))
        result = separated((rings + tops, (("a", 3), ("b", 4))), "a")
        self.assertEqual(result, ((("open", (("x", (2,)),)), ("open", (("x", (2,)),)), ("frozen", (("n", (2,)),))),
                                  (("a", 0), ("b", 1))))

    def test_all_webs(self):
        sizes = []
        for web in some_webs(120):
            for name in names_of(web):
                others = [word for word in names_of(web) if word != name]
                with self.subTest(web=web, name=name):
                    try:
                        result = separated(web, name)
                    except TooLarge:
                        self.assertGreater(size_apart(web, name), 30)
                        continue
                    self.assertTrue(is_web(result))
                    self.assertEqual(names_of(result), names_of(web))
                    self.assertTrue(all([independent(result, name, other) for other in others]))
                    self.assertTrue(same(only(web, [name]), only(result, [name])))
                    self.assertTrue(not others or same(only(web, others), only(result, others)))
                    self.assertEqual([trimmed(result), least(result), separated(result, name)], [result] * 3)
                    self.assertEqual(len(result[0]), size_apart(web, name))
                    pure = [number for number in pure_numbers(result) if number in met_by(result, name)]
                    both = [number for number in pure if others and number in met_by_all(only(result, others))]
                    sides = [least_size(only(web, [name])), least_size(only(web, others)) if others else 0]
                    self.assertEqual(len(result[0]), sum(sides) - len(both))
                    sizes.append(len(result[0]) - least_size(web))
        self.assertGreater(min(sizes.count(0), sizes.count(1), sizes.count(2)), 10)

    def test_looking_the_same_before_and_after(self):
        chance = random.Random(10)
        for web in some_webs(60):
            for name in names_of(web):
                if size_apart(web, name) <= 30:
                    self.assertEqual(separated(still_split(chance, web), name), separated(web, name))

    def test_no_web_has_fewer_objects(self):
        """Compare with all webs of one and two objects, by what the scripts of each side answer."""
        webs = tiny_webs("ab")
        told = {}
        for web in webs:
            told[web] = repr([all_answers(only(web, [name]), [name]) for name in "ab"])
        for web in webs:
            result = separated(web, "a")
            fitting = [other for other in webs if told[other] == told[web] and not plainly_shared(other, "a", "b")]
            self.assertTrue(all(len(met_by_all(other)) >= len(result[0]) for other in fitting))
            found = {trimmed(other) for other in fitting if len(other[0]) == len(result[0])}
            self.assertEqual(found, {result} if len(result[0]) <= 2 else set())

    def test_too_large(self):
        for many, error in [(14, False), (15, False), (16, True), (30, True)]:
            for kind in ["open", "frozen"]:
                # All of them lead to one changeable object, so that none of them is pure.
                web = (row(many, "open", kind=kind), (("a", 0), ("b", many // 2)))
                self.answers(web, None if error else 2 * many)

    def test_too_large_by_one_object(self):
        for more, size in [(0, 28), (1, 29), (2, 30), (3, None), (4, None)]:
            objects = row(14, "open", kind="open") + tuple([("frozen", (("v", at),)) for at in range(more)])
            names = [("a", 0), ("b", 0), ("c", 14), ("d", 15), ("e", 16), ("f", 17)][:2 + more]
            self.answers((objects, tuple(names)), size)

    def test_pure_objects_do_not_make_it_too_large(self):
        for many, size in [(1, 30), (2, None)]:
            pure = row(28, last=5)
            tops = tuple([("open", (("x", (at,)),)) for at in range(many)])
            self.answers((pure + tops, (("a", 28), ("b", 28), ("c", 27 + many))), size)

    def answers(self, web, size):
        """Test how many objects the separated webs have; None for those that would be too large."""
        for name in "ab":
            with self.subTest(web=web, name=name):
                if size is None:
                    with self.assertRaises(TooLarge):
                        separated(web, name)
                else:
                    self.assertEqual(len(separated(web, name)[0]), size)
                    self.assertTrue(is_web(separated(web, name)))

    def test_other_numbers(self):
        web = (row(10, "open"), (("a", 0), ("b", 5), ("c", 9)))
        for start in range(1, 10):
            order = list(range(start, 10)) + list(range(start))
            self.assertEqual(separated(numbered(web, order), "b"), separated(web, "b"))


def size_apart(web, name):
    """Return how many objects the web has with the name apart: told by the alike objects of both sides together."""
    others = [word for word in names_of(web) if word != name]
    many = len(web[0])
    twins = tuple([(kind, tuple([(word, (value[0] + many,) if isinstance(value, tuple) else value)
                                 for word, value in fields])) for kind, fields in web[0]])
    numbers = dict(web[1])
    names = [(name, numbers[name])] + [(word, numbers[word] + many) for word in others]
    return least_size((web[0] + twins, tuple(names)))


class Arguments(unittest.TestCase):
    def test_invalid_webs(self):
        for web in NO_WEBS:
            with self.subTest(web):
                for function in [shared, independent, witness]:
                    for names in [("a", "b"), ("d", "b"), (None, None), (["a"], {}), ("a", "a")]:
                        with self.assertRaises(InvalidWeb):
                            function(web, *names)
                for name in ["a", "d", None, [], {}]:
                    with self.assertRaises(InvalidWeb):
                        separated(web, name)

    def test_invalid_names(self):
        for name in NO_NAMES:
            with self.subTest(name):
                for function in [shared, independent, witness]:
                    for names in [(name, "a"), ("a", name), (name, name), (name, "d"), ("d", name)]:
                        with self.assertRaises(InvalidName):
                            function(WEB, *names)
                with self.assertRaises(InvalidName):
                    separated(WEB, name)
                with self.assertRaises(InvalidName):
                    separated((row(30, "open"), (("a", 0), ("b", 0), ("c", 0))), name)

    def test_by_name_in_another_order(self):
        self.assertEqual(shared(other="b", name="a", web=WEB), [0])
        self.assertIs(independent(other="c", web=WEB, name="a"), True)
        script = witness(other="b", name="a", web=WEB)
        self.assertEqual([script[0][1][0], script[1][1][0]], ["a", "b"])
        self.assertEqual(separated(name="a", web=WEB), separated(WEB, "a"))

    def test_arguments_stay_as_they_were(self):
        for web in some_webs(20):
            before = copy.deepcopy(web)
            name, other = web[1][0][0], web[1][-1][0]
            shared(web, name, other), independent(web, name, other), witness(web, name, other)
            if size_apart(web, name) <= 30:
                separated(web, name)
            self.assertEqual(web, before)

    def test_lists_belong_to_the_caller(self):
        numbers, script = shared(WEB, "a", "b"), witness(WEB, "a", "b")
        kept = copy.deepcopy((numbers, script))
        numbers.append("more")
        script.clear()
        self.assertEqual((shared(WEB, "a", "b"), witness(WEB, "a", "b")), kept)

    def test_large_webs_take_less_than_a_second(self):
        for objects in [row(30, "open"), row(30, "open", kind="open"), row(30), row(30, last=0), largest()[0]]:
            web = (objects, tuple([(word, at) for at, word in enumerate("abcdef")]))
            for function, names in [(shared, "af"), (independent, "af"), (witness, "af"), (separated, "c")]:
                start = time.perf_counter()
                try:
                    function(web, *names)
                except TooLarge:
                    self.assertIs(function, separated)
                self.assertLess(time.perf_counter() - start, 1)
