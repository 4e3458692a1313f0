"""Points 2, 6, 7, 8, 9 and 12: webs that look the same, least webs, matches and differences."""

import copy
import itertools
import random
import time
import unittest

from openfrozen.errors import InvalidWeb, OtherNames
from openfrozen.least import difference, is_match, least, match, same
from openfrozen.scripts import run
from openfrozen.webs import is_script, is_web, trimmed
from tests.samples import DEEP, JUNK, NO_WEBS, RING, SELF, SMALLEST, UNREACHED, WEB, WEBS
from tests.samples import all_answers, changeable, dense_web, is_plain_match, largest, least_size, met_by_all
from tests.samples import one_path_pairs, random_cases, row, same_reads, shuffled, split, still_split, tiny_webs

ONE = ((("open", (("x", 0),)),), (("a", 0), ("b", 0)))
TWO = ((("open", (("x", 0),)), ("open", (("x", 0),))), (("a", 0), ("b", 1)))
NAMES = (("a", 0),)


def crossing():
    """Return two frozen webs of 30 objects in which all 900 pairs are those to which one path leads."""
    one = tuple([("frozen", (("l", ((at + 1) % 30,)), ("r", (at,)))) for at in range(30)])
    two = tuple([("frozen", (("l", (at,)), ("r", ((at + 1) % 30,)))) for at in range(30)])
    return (one, NAMES), (two, NAMES)


def long_agreement(many, other):
    """Return two lists of 0 and 1 with these lengths that agree as long as possible if each is repeated for ever."""
    length = many + other - 2
    found, waiting = set(), [0]
    while waiting:
        at = waiting.pop()
        if 0 <= at < length and at not in found:
            found.add(at)
            waiting += [at + many, at - many, at + other, at - other]
    return [[int(at in found) for at in range(size)] for size in (many, other)]


def frozen_ring(many):
    return row(many), NAMES


def spotted_ring(many):
    """Return a ring with one changeable object in it."""
    return row(many, first="open"), NAMES


def chain(many, last, kind="frozen"):
    return row(many, first=kind, last=last, kind=kind), NAMES


def changed(web, number, kind=None, word=None, value=None):
    """Return the web with one object of another kind, or with another value in a field."""
    old_kind, fields = web[0][number]
    fields = tuple([(key, value if key == word else old) for key, old in fields])
    item = (kind or old_kind, fields)
    return web[0][:number] + (item,) + web[0][number + 1:], web[1]


def some_webs(many, seed=7):
    """Yield webs of all sorts, the same ones in every run."""
    chance = random.Random(seed)
    yield from WEBS
    for web, _ in random_cases(many):
        yield web
    for _ in range(many):
        yield dense_web(chance)


def some_pairs(many):
    """Yield pairs of webs with the same names, of which many look the same or nearly so."""
    chance = random.Random(11)
    for at in range(many):
        web = dense_web(chance)
        number = chance.randrange(len(web[0]))
        yield web, still_split(chance, web)
        yield web, split(chance, web, [number])
        yield web, split(chance, web, [number for number in met_by_all(web) if changeable(web[0][number])])
        yield web, dense_web(chance, len(web[0]))
        if web[0][number][1]:
            word = web[0][number][1][0][0]
            yield web, shuffled(chance, changed(web, number, word=word, value=chance.choice([0, 1, (0,)])))
        yield web, (web[0], tuple([(word, chance.randrange(len(web[0]))) for word, _ in web[1]]))


class Least(unittest.TestCase):
    def test_alike_frozen_objects_become_one(self):
        objects = (("open", (("x", 1), ("y", (1,)))), ("frozen", (("z", 7),)))
        self.assertEqual(least(WEB), (objects, (("a", 0), ("b", 0), ("c", 1))))

    def test_integers_kinds_and_words_keep_objects_apart(self):
        for first, second in itertools.permutations([
                ("frozen", (("z", 7),)), ("frozen", (("z", 8),)), ("frozen", (("y", 7),)), ("frozen", ()),
                ("open", ()), ("open", (("z", 7),)), ("frozen", (("y", 7), ("z", 7)))], 2):
            web = ((first, second), (("a", 0), ("b", 1)))
            self.assertEqual(least(web), web)

    def test_open_objects_without_fields(self):
        for kind in ["open", "frozen"]:
            web = (((kind, ()),) * 3, (("a", 0), ("b", 1), ("c", 2)))
            self.assertEqual(least(web), (((kind, ()),), (("a", 0), ("b", 0), ("c", 0))))
        web = ((("frozen", (("l", (1,)), ("r", (2,)))), ("open", ()), ("open", ())), NAMES)
        self.assertEqual(least(web), ((("frozen", (("l", (1,)), ("r", (1,)))), ("open", ())), NAMES))
        web = ((("frozen", (("l", (1,)), ("r", (2,)))), ("open", ()), ("frozen", ())), NAMES)
        self.assertEqual(least(web), web)

    def test_changeable_objects_stay_apart(self):
        self.assertEqual(least(TWO), TWO)
        web = ((("frozen", (("n", (2,)),)), ("frozen", (("n", (3,)),)), ("open", (("x", 0),)), ("open", (("x", 0),))),
               (("a", 0), ("b", 1)))
        self.assertEqual(least(web), web)

    def test_frozen_objects_over_one_changeable_object(self):
        web = ((("frozen", (("n", (2,)),)), ("frozen", (("n", (2,)),)), ("open", (("x", 0),))), (("a", 0), ("b", 1)))
        self.assertEqual(least(web), ((("frozen", (("n", (1,)),)), ("open", (("x", 0),))), (("a", 0), ("b", 0))))

    def test_references_and_integers(self):
        web = ((("frozen", (("n", 1),)), ("frozen", (("n", (1,)),)), ("frozen", (("n", (1,)),))),
               (("a", 0), ("b", 1), ("c", 2)))
        self.assertEqual(least(web), (web[0][:2], (("a", 0), ("b", 1), ("c", 1))))

    def test_rings_of_frozen_objects(self):
        for many in [1, 2, 3, 30]:
            self.assertEqual(least(frozen_ring(many)), frozen_ring(1))
        tail = row(5)[:4] + (("frozen", (("n", (2,)),)),)
        self.assertEqual(least((tail, NAMES)), frozen_ring(1))
        two_rings = (row(2) + (("frozen", (("n", (3,)),)), ("frozen", (("n", (4,)),)), ("frozen", (("n", (2,)),))),
                     (("a", 0), ("b", 3)))
        self.assertEqual(least(two_rings), (row(1), (("a", 0), ("b", 0))))

    def test_rings_with_one_other_integer(self):
        objects = tuple([("frozen", (("n", ((at + 1) % 6,)), ("v", at % 3))) for at in range(6)])
        self.assertEqual(least((objects, NAMES)),
                         (tuple([("frozen", (("n", ((at + 1) % 3,)), ("v", at))) for at in range(3)]), NAMES))
        objects = objects[:5] + (("frozen", (("n", (0,)), ("v", 9))),)
        self.assertEqual(least((objects, NAMES)), (objects, NAMES))

    def test_rings_with_an_open_object(self):
        for many in [1, 2, 30]:
            self.assertEqual(least(spotted_ring(many)), spotted_ring(many))
        plain = (row(4)[:3] + (("open", ()),), NAMES)
        self.assertEqual(least(plain), plain)

    def test_two_ways_round_one_changeable_object(self):
        objects = (("open", (("l", (1,)), ("r", (2,)))), ("frozen", (("n", (3,)),)), ("frozen", (("n", (4,)),)),
                   ("frozen", (("n", (0,)),)), ("frozen", (("n", (0,)),)))
        self.assertEqual(least((objects, NAMES)), ((("open", (("l", (1,)), ("r", (1,)))), ("frozen", (("n", (2,)),)),
                                                   ("frozen", (("n", (0,)),))), NAMES))

    def test_chains_are_alike_from_their_ends(self):
        objects = row(15, last=3) + tuple([("frozen", (("n", (at + 16,)),)) for at in range(14)]) + row(1, last=3)
        self.assertEqual(least((objects, (("a", 0), ("b", 16)))), (row(15, last=3), (("a", 0), ("b", 1))))
        self.assertEqual(len(least((objects[:29] + row(1, last=4), (("a", 0), ("b", 15))))[0]), 30)

    def test_objects_that_no_name_reaches(self):
        web = ((("open", (("l", (1,)), ("r", (1,)))), ("frozen", ())), (("p", 0),))
        self.assertEqual(least(UNREACHED), web)

    def test_numbers(self):
        web = ((("frozen", ()), ("open", (("x", (0,)),)), ("frozen", ()), ("open", (("l", (2,)), ("r", (1,))))),
               (("a", 3), ("b", 1)))
        self.assertEqual(least(web), ((("open", (("l", (2,)), ("r", (1,)))), ("open", (("x", (2,)),)), ("frozen", ())),
                                      (("a", 0), ("b", 1))))

    def test_all_webs(self):
        for web in some_webs(150):
            with self.subTest(web):
                small = least(web)
                self.assertTrue(is_web(small))
                self.assertEqual(len(small[0]), least_size(web))
                self.assertEqual([trimmed(small), least(small), least(trimmed(web))], [small] * 3)
                self.assertTrue(is_plain_match(web, small, match(web, small)))
                self.assertIs(same(web, small), True)

    def test_split_and_numbered_anew(self):
        chance = random.Random(3)
        for web in some_webs(60):
            for _ in range(3):
                other = still_split(chance, web)
                with self.subTest(web=web, other=other):
                    self.assertEqual(least(other), least(web))
                    self.assertEqual([same(web, other), same(other, web)], [True, True])


class Alike(unittest.TestCase):
    def test_no_two_objects_of_a_least_web_are_alike(self):
        for web in some_webs(40):
            small = least(web)
            for first, second in itertools.combinations(range(len(small[0])), 2):
                with self.subTest(web=small, first=first, second=second):
                    self.assertTrue(told_apart_by_paths(small, first, second))


def told_apart_by_paths(web, first, second):
    """Return whether some path leads from one of the objects to other kinds, integers or changeable objects."""
    one, two = (web[0], (("a", first),)), (web[0], (("a", second),))
    for number, other in one_path_pairs(one, two):
        if number != other and (changeable(web[0][number]) or changeable(web[0][other])):
            return True
    return not same_reads(one, two)


class TinyWebs(unittest.TestCase):
    """All webs of one and two objects, compared by what the scripts answer (point 6)."""

    @classmethod
    def setUpClass(cls):
        cls.webs = tiny_webs("ab")
        cls.told = {web: repr(all_answers(web, "ab")) for web in cls.webs}

    def test_same_answers_and_same_least_webs(self):
        by_answers, by_least = {}, {}
        for web in self.webs:
            by_answers.setdefault(self.told[web], []).append(web)
            by_least.setdefault(least(web), []).append(web)
        self.assertEqual(set(map(frozenset, by_answers.values())), set(map(frozenset, by_least.values())))
        for alike in by_answers.values():
            fewest = min([len(web[0]) for web in alike])
            self.assertEqual(len(least(alike[0])[0]), fewest)
            self.assertEqual({trimmed(web) for web in alike if len(web[0]) == fewest}, {least(alike[0])})

    def test_same_match_and_difference(self):
        chance = random.Random(2)
        for _ in range(6000):
            one, two = chance.choice(self.webs), chance.choice(self.webs)
            alike = self.told[one] == self.told[two]
            with self.subTest(one=one, two=two):
                self.assertIs(same(one, two), alike)
                self.assertEqual(match(one, two) is not None, alike)
                self.assertEqual(difference(one, two) is None, alike)


class Same(unittest.TestCase):
    def test_one_object_or_two(self):
        self.assertEqual([same(ONE, TWO), same(TWO, ONE), same(ONE, ONE), same(TWO, TWO)], [False, False, True, True])

    def test_words_of_names_count(self):
        for names in [(("b", 0),), (("a", 0), ("b", 0)), (("aa", 0),)]:
            with self.assertRaises(OtherNames):
                same(SMALLEST, (SMALLEST[0], names))

    def test_kinds_without_fields(self):
        still = ((("frozen", ()),), NAMES)
        self.assertEqual([same(SMALLEST, still), same(still, SMALLEST), same(still, still)], [False, False, True])

    def test_rings_of_different_lengths(self):
        for many, other in itertools.product([1, 2, 3, 29, 30], repeat=2):
            self.assertIs(same(frozen_ring(many), frozen_ring(other)), True)
            self.assertIs(same(spotted_ring(many), spotted_ring(other)), many == other)
            self.assertIs(same((row(many, first="open", kind="open"), NAMES), (row(other, first="open", kind="open"),
                                                                              NAMES)), many == other)

    def test_unreached_objects_do_not_count(self):
        more = (UNREACHED[0] + (("open", (("x", 5),)),), UNREACHED[1])
        self.assertEqual([same(UNREACHED, more), same(more, trimmed(UNREACHED))], [True, True])

    def test_one_change(self):
        web = ((("open", (("x", 1), ("y", (1,)))), ("frozen", (("z", (2,)),)), ("open", ())), (("a", 0), ("b", 1)))
        others = [
            changed(web, 0, kind="frozen"), changed(web, 1, kind="open"), changed(web, 2, kind="frozen"),
            changed(web, 0, word="x", value=2), changed(web, 0, word="x", value=(1,)),
            changed(web, 0, word="y", value=1), changed(web, 0, word="y", value=(2,)),
            changed(web, 1, word="z", value=2), changed(web, 1, word="z", value=(0,)),
            (web[0], (("a", 0), ("b", 0))), (web[0], (("a", 1), ("b", 1))), (web[0], (("a", 0), ("b", 2))),
            (web[0][:2] + (("open", (("x", 1),)),), web[1]),
            ((("open", (("x", 1),)),) + web[0][1:], web[1]),
            ((("open", (("w", 1), ("y", (1,)))),) + web[0][1:], web[1]),
        ]
        for other in others:
            with self.subTest(other):
                self.assertEqual([same(web, other), same(other, web), match(web, other)], [False, False, None])
                self.assertNotEqual(least(web), least(other))

    def test_one_changeable_object_split(self):
        chance = random.Random(8)
        many = 0
        for web in some_webs(100):
            for number in [number for number in met_by_all(web) if changeable(web[0][number])]:
                other = split(chance, web, [number]) if len(web[0]) < 30 else web
                both = least_size(other) > least_size(web)
                many += both
                with self.subTest(web=web, other=other):
                    self.assertIs(same(web, other), not both)
        self.assertGreater(many, 50)

    def test_pairs_of_webs(self):
        seen = []
        for one, two in some_pairs(150):
            with self.subTest(one=one, two=two):
                alike = least(one) == least(two)
                self.assertEqual([same(one, two), same(two, one)], [alike, alike])
                seen.append(alike)
        self.assertGreater(min(seen.count(True), seen.count(False)), 100)

    def test_scripts_answer_the_same(self):
        chance = random.Random(6)
        for web, script in random_cases(150):
            other = still_split(chance, web)
            for small in [other, least(web), trimmed(web)]:
                answers, after = run(web, script)
                others, other_after = run(small, script)
                self.assertEqual(answers, others)
                self.assertIs(same(after, other_after), True)


class Match(unittest.TestCase):
    def test_examples(self):
        self.assertEqual([match(ONE, ONE), match(TWO, TWO), match(ONE, TWO), match(TWO, ONE)],
                         [[(0, 0)], [(0, 0), (1, 1)], None, None])
        self.assertEqual(match(WEB, least(WEB)), [(0, 0), (1, 1), (2, 1)])
        self.assertEqual(match(least(WEB), WEB), [(0, 0), (1, 1), (1, 2)])
        self.assertEqual(match(UNREACHED, trimmed(UNREACHED)), [(1, 1), (2, 0)])

    def test_rings(self):
        self.assertEqual(match(frozen_ring(2), frozen_ring(2)), [(0, 0), (1, 1)])
        self.assertEqual(match(frozen_ring(2), frozen_ring(3)), [(0, 0), (0, 1), (0, 2), (1, 0), (1, 1), (1, 2)])
        self.assertEqual(match(RING, RING), [(0, 0), (1, 1), (2, 2)])
        self.assertEqual(match(SELF, SELF), [(0, 0)])

    def test_one_path_for_each_pair(self):
        for one, two in some_pairs(100):
            found = match(one, two)
            with self.subTest(one=one, two=two):
                if found is None:
                    self.assertIs(same(one, two), False)
                else:
                    self.assertIs(type(found), list)
                    self.assertTrue(all(type(pair) is tuple for pair in found))
                    self.assertEqual(found, sorted(one_path_pairs(one, two)))
                    self.assertTrue(is_plain_match(one, two, found))

    def test_many_pairs(self):
        self.assertEqual(match(*crossing()), list(itertools.product(range(30), repeat=2)))
        self.assertEqual(match(frozen_ring(30), frozen_ring(29)), list(itertools.product(range(30), range(29))))


class IsMatch(unittest.TestCase):
    def test_more_pairs_than_the_fewest(self):
        more = [(0, 0), (0, 1), (1, 0), (1, 1)]
        self.assertIs(is_match(frozen_ring(2), frozen_ring(2), [(0, 0), (1, 1)]), True)
        self.assertIs(is_match(frozen_ring(2), frozen_ring(2), more), True)
        for pairs in itertools.combinations(more, 3):
            self.assertIs(is_match(frozen_ring(2), frozen_ring(2), list(pairs)), False)
        self.assertIs(is_match(WEB, WEB, [(0, 0), (1, 1), (2, 2)]), True)
        self.assertIs(is_match(WEB, WEB, [(0, 0), (1, 1), (1, 2), (2, 1), (2, 2)]), True)
        self.assertIs(is_match(WEB, WEB, [(0, 0), (1, 1), (1, 2), (2, 2)]), True)

    def test_other_kinds_of_values(self):
        for value in [((0, 0), (1, 1)), [[0, 0], [1, 1]], [(0, 0), [1, 1]], [(0, 0), (1, True)], [(False, 0), (1, 1)],
                      [(0, 0), (True, True)], [(0, 0), (1, 1), None], [(0, 0), (1,)], [(0, 0), (1, 1, 1)],
                      [(0, 0), ("1", "1")], [(0, 0), (1, None)], [(0, 0), ((1,), (1,))], [(0, 0), ({}, [])],
                      [(0, 0), (1, [1])], {(0, 0): (1, 1)}, {0: 0, 1: 1}, "(0, 0)", [(0, 0), (1, 10 ** 30)],
                      [(0, 0), (1, DEEP)], [], [()], [(0, 0), ()], [(0, 0), 1]]:
            with self.subTest(value):
                self.assertIs(is_match(frozen_ring(2), frozen_ring(2), value), False)

    def test_order_of_the_pairs(self):
        for value in itertools.permutations([(0, 0), (1, 1), (2, 2)]):
            self.assertIs(is_match(WEB, WEB, list(value)), list(value) == sorted(value))
        for value in [[(0, 0), (0, 0), (1, 1), (2, 2)], [(0, 0), (1, 1), (2, 2), (2, 2)]]:
            self.assertIs(is_match(WEB, WEB, value), False)

    def test_objects_that_are_not_reachable(self):
        web = (UNREACHED[0] + (("frozen", ()),), UNREACHED[1])
        self.assertIs(is_match(web, web, [(1, 1), (2, 2)]), True)
        for pair in [(0, 0), (3, 3), (1, 3), (3, 1), (1, 4), (4, 1), (-1, 1), (1, -1), (1, -3), (-3, 1)]:
            self.assertIs(is_match(web, web, sorted([(1, 1), (2, 2), pair])), False)

    def test_changeable_objects_in_one_pair_only(self):
        for value in [[(0, 0)], [(0, 0), (0, 1)], [(0, 1)], [(0, 0), (1, 1)]]:
            self.assertIs(is_match(ONE, TWO, value), False)
        for value in [[(0, 0)], [(0, 0), (1, 0)], [(1, 0)]]:
            self.assertIs(is_match(TWO, ONE, value), False)
        for value in [[(0, 0), (0, 1), (1, 1)], [(0, 0), (0, 1), (1, 0), (1, 1)], [(0, 1), (1, 0)]]:
            self.assertIs(is_match(TWO, TWO, value), False)

    def test_webs_that_do_not_look_the_same(self):
        for one, two in [(SMALLEST, ((("frozen", ()),), NAMES)), (frozen_ring(1), chain(1, 0)), (chain(1, 0), chain(1, 1))]:
            for value in JUNK + [[(0, 0)]]:
                self.assertIs(is_match(one, two, value), False)

    def test_any_value(self):
        for web in WEBS:
            for value in JUNK:
                self.assertIs(is_match(web, web, value), False)
        self.assertIs(is_match(WEB, WEB, [(0, 0)] * 100000), False)
        self.assertIs(is_match(WEB, WEB, [(at, at) for at in range(100000)]), False)

    def test_changed_matches(self):
        chance = random.Random(4)
        seen = []
        for one, two in some_pairs(60):
            found = match(one, two) or sorted(one_path_pairs(one, two))
            values = [found]
            everything = list(itertools.product(range(len(one[0])), range(len(two[0]))))
            for _ in range(6):
                more = sorted(set(found + chance.sample(everything, min(len(everything), chance.randint(1, 3)))))
                gone = found[:]
                gone.pop(chance.randrange(len(gone)))
                other = sorted(set(gone + [chance.choice(everything)]))
                values += [more, gone, other, found[::-1]]
            for value in values:
                with self.subTest(one=one, two=two, value=value):
                    right = is_plain_match(one, two, value)
                    self.assertIs(is_match(one, two, value), right)
                    seen.append(right)
        self.assertGreater(min(seen.count(True), seen.count(False)), 100)

    def test_all_lists_of_pairs(self):
        pairs = list(itertools.product(range(3), range(2)))
        one = ((("frozen", (("n", (1,)),)), ("frozen", (("n", (0,)),)), ("frozen", (("n", (2,)),))), (("a", 0), ("b", 2)))
        two = ((("frozen", (("n", (0,)),)), ("frozen", (("n", (1,)),))), (("a", 0), ("b", 1)))
        for many in range(len(pairs) + 1):
            for value in itertools.combinations(pairs, many):
                self.assertIs(is_match(one, two, list(value)), is_plain_match(one, two, list(value)))


class Difference(unittest.TestCase):
    def told_apart(self, one, two, many=None):
        """Test that the difference does what the document says; many is the number of its statements, if it is known."""
        script = difference(one, two)
        with self.subTest(one=one, two=two, script=script):
            self.assertTrue(is_script(script))
            self.assertNotEqual(run(one, script)[0], run(two, script)[0])
            self.assertEqual(script[-1][0], "read")
            self.assertIn(len(script), [1, 2] if many is None else [many])
            if len(script) == 2:
                self.assertEqual(script[0][0], "set")
                self.assertIs(type(script[0][2]), int)
                self.assertTrue(same_reads(one, two))

    def test_one_read(self):
        for one, two in [(SMALLEST, ((("frozen", ()),), NAMES)), (SMALLEST, ((("open", (("x", 0),)),), NAMES)),
                         (chain(1, 0), chain(1, 1)), (chain(1, 0), frozen_ring(1)), (chain(2, 0), chain(3, 0)),
                         (chain(1, 0, "open"), chain(1, 0)), (frozen_ring(1), spotted_ring(1)),
                         (chain(30, 0), chain(30, 1)), (chain(30, 0), chain(29, 0)), (frozen_ring(30), chain(30, 5)),
                         (spotted_ring(30), spotted_ring(29)), (spotted_ring(30), frozen_ring(30)),
                         (chain(30, 0, "open"), chain(30, 1, "open"))]:
            self.told_apart(one, two, 1)
            self.told_apart(two, one, 1)

    def test_fields_behind_the_first_one(self):
        one = ((("frozen", (("a", 1), ("b", (0,)), ("c", 3))),), NAMES)
        for two in [changed(one, 0, word="c", value=4), changed(one, 0, word="c", value=(0,)),
                    changed(one, 0, word="b", value=2), changed(one, 0, word="a", value=(0,))]:
            self.told_apart(one, two, 1)
            self.told_apart(two, one, 1)

    def test_a_set_and_a_read(self):
        for value in list(range(-20, 100)) + [999999999, -999999999, (0,)]:
            one = ((("open", (("x", value),)),), (("a", 0), ("b", 0)))
            item = one[0][0]
            for two in [((item, item), (("a", 0), ("b", 1))), ((item, item), (("a", 1), ("b", 0)))]:
                self.told_apart(one, two, 2)
                self.told_apart(two, one, 2)

    def test_references_that_differ(self):
        item = ("open", (("x", (1,)), ("y", 0)))
        for other in [(0,), (1,)]:
            one = ((item, ("open", (("x", (1,)), ("y", 0)))), (("a", 0), ("b", 1)))
            two = ((item, ("open", (("x", other), ("y", 0)))), (("a", 0), ("b", 1)))
            if other == (1,):
                self.assertIsNone(difference(one, two))
            else:
                self.told_apart(one, two, 2)
                self.told_apart(two, one, 2)

    def test_rings_of_open_objects(self):
        for many, other in itertools.permutations([1, 2, 3, 15, 29, 30], 2):
            one, two = (row(many, "open", kind="open"), NAMES), (row(other, "open", kind="open"), NAMES)
            self.told_apart(one, two, 2)

    def test_tails_before_rings_of_open_objects(self):
        for many, back, other, other_back in itertools.product([2, 7, 30], [0, 1, 6], [3, 29], [0, 2]):
            if back < many:
                one = (row(many, "open", (back,), "open"), NAMES)
                two = (row(other, "open", (other_back,), "open"), NAMES)
                self.told_apart(one, two, 2)
                self.told_apart(two, one, 2)

    def test_rings_with_one_odd_object(self):
        for many, other in [(30, 29), (29, 30), (16, 30), (2, 30), (1, 30)]:
            for last in [("open", ()), ("frozen", ()), ("open", (("l", 0), ("r", 0)))]:
                webs = []
                for size in [many, other]:
                    objects = [("frozen", (("l", ((at + 1) % size,)), ("r", (at,)))) for at in range(size)]
                    webs.append((tuple(objects[:-1]) + (last,), NAMES))
                self.told_apart(*webs, 1)

    def test_far_integers(self):
        for sizes in [(30, 29), (29, 30), (30, 7), (2, 29)]:
            webs = [(tuple([("frozen", (("n", ((at + 1) % size,)), ("v", pattern[at]))) for at in range(size)]), NAMES)
                    for size, pattern in zip(sizes, long_agreement(*sizes))]
            self.told_apart(*webs, 1)
            self.assertEqual(len(difference(*webs)[0][1]), sum(sizes))

    def test_far_changeable_objects(self):
        for sizes in [(28, 27), (27, 28), (28, 5), (3, 28)]:
            webs = []
            for size, pattern in zip(sizes, long_agreement(*sizes)):
                objects = [("frozen", (("c", (size + pattern[at],)), ("n", ((at + 1) % size,)))) for at in range(size)]
                webs.append((tuple(objects) + (("open", (("x", 0),)),) * 2, NAMES))
            self.told_apart(*webs, 2)
            self.assertGreaterEqual(len(difference(*webs)[0][1]), sum(sizes))

    def test_pairs_of_webs(self):
        seen = []
        for one, two in some_pairs(150):
            if same(one, two):
                self.assertIsNone(difference(one, two))
            else:
                self.told_apart(one, two)
                seen.append(len(difference(one, two)))
        self.assertGreater(min(seen.count(1), seen.count(2)), 30)

    def test_pairs_of_large_webs(self):
        chance = random.Random(9)
        for at in range(60):
            kind = ["open", "frozen"][at % 2]
            webs = []
            for many in [chance.randint(25, 29), chance.randint(25, 29)]:
                objects = [(kind, (("l", ((at + 1) % many,)), ("r", (chance.randrange(many),)))) for at in range(many)]
                if kind == "frozen":
                    objects.append(("open", (("l", (0,)), ("r", (many,)))))
                    objects[chance.randrange(many)] = ("frozen", (("l", (many,)), ("r", (many,))))
                webs.append((tuple(objects), (("a", 0), ("b", chance.randrange(many)))))
            if not same(*webs):
                self.told_apart(*webs)


class Arguments(unittest.TestCase):
    def test_invalid_webs(self):
        other = (WEB[0], (("q", 0),))
        for web in NO_WEBS:
            with self.subTest(web):
                with self.assertRaises(InvalidWeb):
                    least(web)
                for function in [same, match, difference]:
                    for arguments in [(web, WEB), (WEB, web), (other, web), (web, other), (web, web), (web, None)]:
                        with self.assertRaises(InvalidWeb):
                            function(*arguments)
                for value in [[(0, 0)], None, [], DEEP]:
                    for arguments in [(web, WEB, value), (WEB, web, value), (other, web, value), (web, None, value)]:
                        with self.assertRaises(InvalidWeb):
                            is_match(*arguments)

    def test_other_names(self):
        for names in [(("a", 0),), (("a", 0), ("b", 0), ("d", 2)), (("a", 0), ("b", 0), ("c", 2), ("d", 0)), (("q", 0),),
                      (("aa", 0), ("b", 0), ("c", 2))]:
            for one, two in [(WEB, (WEB[0], names)), ((WEB[0], names), WEB)]:
                for function in [same, match, difference]:
                    with self.assertRaises(OtherNames):
                        function(one, two)
                for value in JUNK + [[(0, 0)]]:
                    with self.assertRaises(OtherNames):
                        is_match(one, two, value)

    def test_by_name_in_another_order(self):
        self.assertEqual(least(web=RING), RING)
        self.assertEqual([same(other=TWO, web=ONE), match(other=least(WEB), web=WEB)], [False, [(0, 0), (1, 1), (2, 1)]])
        self.assertIs(is_match(value=[(0, 0)], other=ONE, web=ONE), True)
        self.assertIsNone(difference(other=ONE, web=ONE))
        self.assertEqual(difference(other=((("frozen", ()),), NAMES), web=SMALLEST), [("read", ("a",))])

    def test_arguments_stay_as_they_were(self):
        for one, two in some_pairs(20):
            value = sorted(one_path_pairs(one, two))
            before = copy.deepcopy((one, two, value))
            least(one), same(one, two), match(one, two), difference(one, two), is_match(one, two, value)
            self.assertEqual((one, two, value), before)
        value = [[0, 0], {"a": [1]}, (0, 0)]
        before = copy.deepcopy(value)
        is_match(WEB, WEB, value)
        self.assertEqual(value, before)

    def test_lists_belong_to_the_caller(self):
        found, script = match(WEB, WEB), difference(ONE, TWO)
        kept = copy.deepcopy((found, script))
        found.append("more")
        found[0] = None
        script.clear()
        self.assertEqual((match(WEB, WEB), difference(ONE, TWO)), kept)

    def test_large_webs_take_less_than_a_second(self):
        pairs = [crossing(), (frozen_ring(30), frozen_ring(29)), (spotted_ring(30), spotted_ring(30)),
                 (chain(30, 0), chain(30, 1)), (largest(), largest()), (chain(30, 0, "open"), chain(30, 0, "open"))]
        for one, two in pairs:
            pairs_of_one_path = sorted(one_path_pairs(one, two))
            for function, arguments in [(least, [one]), (same, [one, two]), (match, [one, two]), (difference, [one, two]),
                                        (is_match, [one, two, pairs_of_one_path])]:
                start = time.perf_counter()
                function(*arguments)
                self.assertLess(time.perf_counter() - start, 1)
