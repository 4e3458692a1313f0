"""Points 2, 8, 9 and 18: scripts that are taken back, and talks by which a name hears another."""

import copy
import itertools
import random
import time
import unittest

from openfrozen.errors import InvalidName, InvalidScript, InvalidWeb
from openfrozen.least import least, same
from openfrozen.scripts import run
from openfrozen.sharing import independent
from openfrozen.talks import heard, taken_back
from openfrozen.webs import is_script, look, trimmed
from tests.samples import NO_NAMES, NO_SCRIPTS, NO_WEBS, RING, SELF, SMALLEST, WEB, WEBS
from tests.samples import all_paths, changeable, dense_web, largest, least_size, met_by, random_cases, row, shuffled

LINKED = ((("frozen", (("f", (3,)),)), ("frozen", (("g", (3,)), ("h", (4,)))), ("frozen", (("k", (4,)),)),
           ("open", (("v", 0),)), ("open", (("v", 0),))), (("a", 0), ("b", 1), ("c", 2)))


def dense_script(chance, names, many):
    """Return a script of statements that are often done in webs with the fields n, or l and r."""
    script = []
    for _ in range(many):
        fields = chance.choice(["n", "lr"])
        path, value = [tuple([chance.choice(names)] + [chance.choice(fields) for _ in range(chance.randint(0, 3))])
                       for _ in range(2)]
        script.append(chance.choice([("set", path + (fields[0],), chance.randint(0, 9)), ("read", path),
                                     ("set", path + (fields[-1],), value), ("name", chance.choice(names), value)]))
    return script


def cases(many):
    """Yield webs with scripts, short and long ones, the same ones in every run."""
    chance = random.Random(14)
    yield from random_cases(many)
    for web, script in random_cases(many):
        yield web, script[:chance.randint(1, 6)]
    for _ in range(2 * many):
        web = dense_web(chance, names=chance.choice(["ab", "abc", "abcdef"]))
        yield web, dense_script(chance, [word for word, _ in web[1]], chance.choice([1, 2, 3, 5, 60]))


class LeastAndRun(unittest.TestCase):
    def test_no_script_makes_objects_alike_or_unlike(self):
        for web, script in cases(200):
            with self.subTest(web=web, script=script):
                answers, after = run(web, script)
                small_answers, small_after = run(least(web), script)
                self.assertEqual(least(after), trimmed(small_after))
                self.assertEqual(answers, small_answers)

    def test_long_scripts_in_large_webs(self):
        chance = random.Random(15)
        for _ in range(20):
            web = dense_web(chance, 30, "abcdef")
            script = dense_script(chance, "abcdef", 60)
            self.assertEqual(least(run(web, script)[1]), trimmed(run(least(web), script)[1]))


class TakenBack(unittest.TestCase):
    def is_back(self, web, script):
        """Test that the script is taken back by what is returned, and return that."""
        answers, after = run(web, script)
        back = taken_back(web, script)
        with self.subTest(web=web, script=script, back=back):
            self.assertTrue(is_script(back))
            self.assertTrue(same(run(after, back)[1], web))
            done = [answer for statement, answer in zip(script, answers) if statement[0] != "read" and answer == "done"]
            self.assertLessEqual(len(back), len(done))
        return back

    def test_example_web(self):
        web = ((("open", (("x", 0),)), ("open", (("x", 0),))), (("a", 0), ("b", 1)))
        self.is_back(web, [("set", ("a", "x"), 5), ("name", "b", ("b",))])
        self.assertIsNone(taken_back(web, [("name", "b", ("a",))]))

    def test_nothing_done(self):
        for script in [[], [("read", ("a",))], [("set", ("c", "z"), 1)], [("set", ("a", "q"), 1)], [("name", "d", ("a",))],
                       [("name", "a", ("a", "x"))], [("set", ("a", "x"), ("d",)), ("read", ("a", "x"))] * 30]:
            self.assertEqual(taken_back(WEB, script), [])

    def test_integers(self):
        for values in [[5], [1], [5, 1], [5, 6, 7, -1], [0], list(range(60))]:
            self.is_back(WEB, [("set", ("b", "x"), value) for value in values])

    def test_a_reference_where_an_integer_was(self):
        for value in [("a",), ("a", "y"), ("c",)]:
            self.is_back(WEB, [("set", ("a", "x"), value)])
            self.is_back(WEB, [("set", ("a", "x"), value), ("set", ("a", "x"), 3), ("set", ("b", "x"), value)])

    def test_an_integer_where_a_reference_was(self):
        # An object that is alike is still there, but not if the field was the last way to one.
        self.is_back(WEB, [("set", ("a", "y"), 3)])
        self.assertIsNone(taken_back((WEB[0], WEB[1][:2]), [("set", ("a", "y"), 3)]))
        web = ((("open", (("x", (1,)),)), ("open", (("x", 0),))), (("a", 0), ("b", 1)))
        self.is_back(web, [("set", ("a", "x"), 3)])
        self.is_back(web, [("set", ("a", "x"), ("a", "x", "x"))])
        self.assertIsNone(taken_back((web[0], web[1][:1]), [("set", ("a", "x"), 3)]))

    def test_names(self):
        web = ((("open", (("x", 0),)), ("open", (("x", 0),))), (("a", 0), ("b", 1), ("c", 0)))
        exchange = [("name", "c", ("b",)), ("name", "b", ("a",)), ("name", "a", ("c",))]
        self.is_back(web, exchange)
        self.is_back(web, exchange * 20)
        self.assertIsNone(taken_back(web, exchange + [("name", "b", ("a",))]))
        self.is_back(RING, [("name", "a", ("b",)), ("name", "b", ("a", "n", "n"))])
        self.is_back(web, [("name", "b", ("b",))])

    def test_objects_behind_a_field_that_is_set_back_first(self):
        # After the scripts, 1 or 2 is reached by a field only that held something else before.
        web = ((("open", (("l", (1,)), ("r", (2,)))), ("open", (("p", 0),)), ("open", (("p", 0),))), (("a", 0),))
        self.is_back(web, [("set", ("a", "l", "p"), ("a", "r")), ("set", ("a", "r"), 5)])
        self.is_back(web, [("set", ("a", "l", "p"), ("a", "r")), ("set", ("a", "r"), ("a", "l"))])
        self.is_back(web, [("set", ("a", "r", "p"), ("a", "l")), ("set", ("a", "l"), ("a", "r")), ("set", ("a", "r"), 0)])
        self.is_back(web, [("set", ("a", "l", "p"), ("a", "r")), ("set", ("a", "r", "p"), ("a",)),
                           ("name", "a", ("a", "l"))])
        self.assertIsNone(taken_back(web, [("set", ("a", "r"), 5), ("set", ("a", "l", "p"), ("a", "r"))]))

    def test_rings_and_chains(self):
        self.is_back(SELF, [("set", ("a", "v"), ("a",)), ("set", ("b", "me"), 4), ("set", ("b", "v", "me"), ("a",))])
        self.is_back(RING, [("set", ("a", "n", "v"), ("b", "n")), ("set", ("b", "n"), ("a",)), ("name", "a", ("b", "v"))])
        self.assertIsNone(taken_back(RING, [("set", ("b", "n"), ("a",)), ("set", ("a", "n", "v"), 4)]))
        # A chain of 30 objects is turned round link by link.
        web = (row(30, "open", kind="open", last=0), (("a", 0), ("b", 1), ("c", 0)))
        turn = [("set", ("a", "n"), 5)]
        for _ in range(19):
            turn += [("name", "c", ("b",)), ("name", "b", ("b", "n")), ("set", ("c", "n"), ("a",))]
            turn.append(("name", "a", ("c",)))
        self.is_back(web, turn[:60])
        self.is_back(web, [("set", ("a",) + ("n",) * 30, ("a",)), ("name", "a", ("b",) + ("n",) * 15)])

    def test_sixty_statements(self):
        script = [("set", ("a", "x"), [at, ("c",), ("a",)][at % 3]) for at in range(60)]
        self.assertLessEqual(len(self.is_back(WEB, script)), 60)
        web = (row(30, "open", kind="open"), (("a", 0), ("b", 1)))
        script = [("name", "b", ("b", "n")), ("name", "a", ("a",) + ("n",) * 63)] * 30
        self.assertLessEqual(len(self.is_back(web, script)), 60)

    def test_all_cases(self):
        seen = []
        for web, script in cases(400):
            with self.subTest(web=web, script=script):
                lost = least_size(run(web, script)[1]) < least_size(web)
                if lost:
                    self.assertIsNone(taken_back(web, script))
                else:
                    back = self.is_back(web, script)
                    seen += [statement[0] for statement in back]
                seen.append(lost)
        self.assertGreater(min([seen.count(kind) for kind in (True, False, "set", "name")]), 150)

    def test_a_web_that_looks_the_same(self):
        chance = random.Random(16)
        for web, script in cases(50):
            other = shuffled(chance, web)
            self.assertEqual(taken_back(other, script), taken_back(web, script))


def talks_to(web, name, other):
    """Return the number of names of the shortest chain between two names, or None."""
    met = {name: 1}
    for one in range(1, 7):
        for word, far in list(met.items()):
            if far == one:
                for near, _ in web[1]:
                    if any(changeable(web[0][number]) for number in met_by(web, word) & met_by(web, near)):
                        met.setdefault(near, far + 1)
    return met.get(other)


def linked_web(chance):
    """Return a web with up to six names, in which names next to each other often share changeable objects."""
    names = "abcdef"[:chance.randint(2, 6)]
    many = len(names)
    hubs, links = list(range(many)), list(range(many, 2 * many - 1))
    others = list(range(2 * many - 1, 2 * many - 1 + chance.randint(0, 6)))
    objects = []
    for at in hubs:
        ways = links[max(0, at - 1):at + 1]
        fields = [(word, (number,)) for word, number in zip("lr", ways)]
        if others and chance.random() < 0.3:
            fields.append(("z", (chance.choice(others),)))
        objects.append((chance.choice(["frozen", "open"]), tuple(fields)))
    for number in links + others:
        fields = [(word, chance.choice([0, 1, 7, (number,), (chance.choice(others or [number]),)]))
                  for word in chance.choice(["v", "vw"])]
        if number in others and chance.random() < 0.1:
            fields.append(("x", (chance.choice(links),)))
        objects.append(("open" if number in links else chance.choice(["open", "frozen", "frozen"]), tuple(fields)))
    places = hubs[:]
    chance.shuffle(places)
    return shuffled(chance, (tuple(objects), tuple(zip(names, places))))


def straight_web(many, value, kind):
    """Return a web with so many names, of which only those next to each other share one changeable object."""
    objects = []
    for at in range(many):
        fields = [("l", (many + at - 1,))] if at else []
        fields += [("r", (many + at,))] if at < many - 1 else []
        objects.append((kind, tuple(fields)))
    links = [("open", (("v", (many + at,) if value is None else value),)) for at in range(many - 1)]
    return tuple(objects + links), tuple([("abcdef"[at], at) for at in range(many)])


class Heard(unittest.TestCase):
    def hears(self, web, name, other, many):
        """Test that other hears name in the talk, and that the talk has so many statements."""
        talk = heard(web, name, other)
        with self.subTest(web=web, name=name, other=other, talk=talk):
            self.assertTrue(is_script(talk))
            self.assertEqual(len(talk), many)
            for statement in talk:
                self.assertEqual(len(names_in(statement)), 1)
            self.assertEqual((talk[-1][0], talk[-1][1][0]), ("read", other))
            answer = run(web, talk)[0][-1]
            sets = [at for at, statement in enumerate(talk)
                    if statement[0] == "set" and statement[1][0] == name and type(statement[2]) is int]
            others = [run(web, talk[:at] + talk[at + 1:])[0][-1] for at in sets]
            self.assertTrue(any(without != answer for without in others))

    def test_example_web(self):
        for name, other, many in [("a", "b", 2), ("b", "a", 2), ("a", "c", 3), ("c", "a", 3), ("b", "c", 2)]:
            self.hears(LINKED, name, other, many)

    def test_names_of_one_object(self):
        for web in [WEB, SELF, RING]:
            self.hears(web, "a", "b", 2)
            self.hears(web, "b", "a", 2)

    def test_none(self):
        self.assertIsNone(heard(WEB, "a", "c"))
        self.assertIsNone(heard(WEB, "c", "b"))
        self.assertIsNone(heard((row(3), (("a", 0), ("b", 0))), "a", "b"))
        self.assertIsNone(heard(((("open", ()),), (("a", 0), ("b", 0))), "a", "b"))

    def test_long_chains(self):
        for many in range(2, 7):
            for value in [0, 1, 2, 5, 7, -1, 999999999, None]:
                for kind in ["open", "frozen"]:
                    web = straight_web(many, value, kind)
                    for first, last in itertools.permutations(range(many), 2):
                        self.hears(web, "abcdef"[first], "abcdef"[last], abs(first - last) + 1)

    def test_chains_that_end(self):
        web = straight_web(6, 0, "frozen")
        cut = (web[0][:8] + (("frozen", (("v", 0),)),) + web[0][9:], web[1])
        for first, last in itertools.permutations(range(6), 2):
            names = ("abcdef"[first], "abcdef"[last])
            if (first <= 2) == (last <= 2):
                self.hears(cut, *names, abs(first - last) + 1)
            else:
                self.assertIsNone(heard(cut, *names))

    def test_fields_that_lead_to_what_is_shared(self):
        # The changeable objects that two names share lead to the names' own objects and to each other's.
        objects = (("open", (("p", (1,)),)), ("open", (("q", (2,)), ("r", (0,)))), ("open", (("s", (3,)),)),
                   ("open", (("t", 0),)), ("open", (("u", (2,)), ("v", (5,)))), ("open", (("w", (5,)),)),
                   ("frozen", (("k", (5,)),)))
        web = (objects, (("a", 0), ("b", 2), ("c", 4), ("d", 6)))
        for name, other in itertools.permutations("abcd", 2):
            self.hears(web, name, other, talks_to(web, name, other))

    def test_linked_webs(self):
        chance = random.Random(17)
        seen = []
        for _ in range(300):
            web = linked_web(chance)
            for (name, _), (other, _) in itertools.permutations(web[1], 2):
                many = talks_to(web, name, other)
                seen.append(many)
                if many is None:
                    self.assertIsNone(heard(web, name, other))
                else:
                    self.hears(web, name, other, many)
        for many in [2, 3, 4, 5, 6]:
            self.assertGreater(seen.count(many), 20)

    def test_all_webs(self):
        seen = []
        for web, _ in cases(150):
            for (name, _), (other, _) in itertools.permutations(web[1], 2):
                many = talks_to(web, name, other)
                seen.append(many is None)
                self.assertEqual(heard(web, name, other) is None, many is None)
                self.assertTrue(many == 2 or not many or independent(web, name, other))
                if many is not None:
                    self.hears(web, name, other, many)
        self.assertGreater(min(seen.count(True), seen.count(False)), 100)

    def test_two_statements_do_not_reach_over_a_name(self):
        paths = all_paths("a", "fv", 4)
        for path, value in itertools.product(paths[1:], [5] + paths):
            after = run(LINKED, [("set", path, value)])[1]
            for read in all_paths("c", "kv", 4):
                self.assertEqual(look(after, read), look(LINKED, read))


def names_in(statement):
    """Return the set of the names that a statement uses."""
    if statement[0] == "read":
        return {statement[1][0]}
    if statement[0] == "name":
        return {statement[1], statement[2][0]}
    return {statement[1][0]} | ({statement[2][0]} if isinstance(statement[2], tuple) else set())


class Arguments(unittest.TestCase):
    def test_invalid_webs(self):
        for web in NO_WEBS:
            with self.subTest(web):
                for further in [[], [("read", ("a",))], None, (), [None], {}]:
                    with self.assertRaises(InvalidWeb):
                        taken_back(web, further)
                for names in [("a", "b"), ("a", "a"), ("d", "b"), (None, None), ([], {})]:
                    with self.assertRaises(InvalidWeb):
                        heard(web, *names)

    def test_invalid_scripts(self):
        for script in NO_SCRIPTS:
            with self.subTest(script), self.assertRaises(InvalidScript):
                taken_back(WEB, script)

    def test_invalid_names(self):
        for name in NO_NAMES:
            with self.subTest(name):
                for names in [(name, "a"), ("a", name), (name, name), (name, "d")]:
                    with self.assertRaises(InvalidName):
                        heard(WEB, *names)

    def test_one_name_does_not_hear_itself(self):
        for web in WEBS + [LINKED]:
            for word, _ in web[1]:
                with self.assertRaises(InvalidName):
                    heard(web, word, word)

    def test_by_name_in_another_order(self):
        self.assertEqual(taken_back(script=[("set", ("c", "z"), 1)], web=WEB), [])
        self.assertEqual(len(heard(other="c", web=LINKED, name="a")), 3)
        with self.assertRaises(InvalidWeb):
            taken_back(script=None, web=None)

    def test_arguments_stay_as_they_were(self):
        for web, script in cases(20):
            before = copy.deepcopy((web, script))
            taken_back(web, script)
            for (name, _), (other, _) in itertools.permutations(web[1], 2):
                heard(web, name, other)
            self.assertEqual((web, script), before)

    def test_lists_belong_to_the_caller(self):
        script = [("set", ("a", "x"), 5)]
        for function, arguments in [(taken_back, (WEB, script)), (taken_back, (SMALLEST, [])), (heard, (LINKED, "a", "c"))]:
            found = function(*arguments)
            kept = copy.deepcopy(found)
            found.append("more")
            found[0] = None
            self.assertEqual(function(*arguments), kept)
        self.assertEqual(script, [("set", ("a", "x"), 5)])
        empty = []
        self.assertIsNot(taken_back(WEB, empty), empty)

    def test_large_webs_take_less_than_a_second(self):
        chance = random.Random(18)
        names = tuple([(word, at) for at, word in enumerate("abcdef")])
        for objects in [row(30, "open", kind="open"), row(30, "open"), largest()[0], dense_web(chance, 30)[0]]:
            long_path = ("a",) + ("n",) * 63
            for script in [dense_script(chance, "abcdef", 60), [("set", long_path, long_path)] * 60]:
                start = time.perf_counter()
                taken_back((objects, names), script)
                heard((objects, names), "a", "f")
                self.assertLess(time.perf_counter() - start, 1)
