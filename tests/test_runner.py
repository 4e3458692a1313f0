"""Points 8, 9, 16 and 17: runners and still runners."""

import copy
import itertools
import random
import time
import unittest

from openfrozen.errors import InvalidNumber, InvalidPath, InvalidScript, InvalidStatement, InvalidText, InvalidWeb
from openfrozen.errors import NothingToUndo
from openfrozen.forms import MOST_OBJECTS
from openfrozen.least import least, same
from openfrozen.runner import Runner, StillRunner
from openfrozen.scripts import run
from openfrozen.texts import write
from openfrozen.webs import is_script, look, trimmed
from tests.samples import JUNK, NO_PATHS, NO_SCRIPTS, NO_STATEMENTS, NO_WEBS, RING, SELF, SMALLEST, UNREACHED, WEB, WEBS
from tests.samples import all_paths, dense_web, largest, leading_paths, met_by_all, names_of, numbered, random_cases
from tests.samples import random_statement, row, still_split

KINDS = [Runner, StillRunner]
NO_LENGTHS = [value for value in JUNK if value != 1 or value is True] + [7, 8, 64, -6, "1", "6", (1,), [6], {6: 6}]
NAMES = (("a", 0),)


def some_webs(many):
    """Yield webs of all sorts, the same ones in every run."""
    chance = random.Random(41)
    yield from WEBS
    for web, _ in random_cases(many):
        yield web
    for _ in range(many):
        yield dense_web(chance, names=chance.choice(["a", "ab", "abc", "abcdef"]))


def state(runner):
    """Return all that can be seen of a runner without a change."""
    return runner.web, runner.names, len(runner), list(runner.paths(2)), getattr(runner, "refusals", None)


def undone(runner):
    """Return the webs that the runner shows while everything is undone."""
    webs = []
    while True:
        try:
            runner.undo()
        except NothingToUndo:
            return webs
        webs.append(runner.web)


class Executing(unittest.TestCase):
    def test_do(self):
        runner = Runner(WEB)
        script = [("set", ("a", "x"), 5), ("read", ("b", "x")), ("set", ("c", "z"), 1), ("set", ("b", "y"), ("a", "x")),
                  ("name", "a", ("c",)), ("name", "q", ("c",)), ("read", ("a",))]
        self.assertEqual([runner.do(statement) for statement in script],
                         ["done", 5, "refused", "done", "done", "none", ("frozen", ("z",))])
        self.assertEqual(runner.web, run(WEB, script)[1])

    def test_run(self):
        script = [("set", ("a", "x"), 5), ("read", ("b", "x")), ("set", ("c", "z"), 1)]
        runner = Runner(WEB)
        self.assertEqual([runner.run(script), runner.run([]), runner.web], [["done", 5, "refused"], [], run(WEB, script)[1]])
        self.assertEqual(runner.run(script[1:]), [5, "refused"])

    def test_objects_keep_their_numbers(self):
        runner = Runner(UNREACHED)
        self.assertEqual(runner.web, UNREACHED)
        runner.do(("set", ("p", "l"), 4))
        self.assertEqual(runner.web, (UNREACHED[0][:2] + (("open", (("l", 4), ("r", (1,)))),), UNREACHED[1]))

    def test_runs_against_scripts_run(self):
        for web, script in random_cases(150):
            runner, one_by_one = Runner(web), Runner(web)
            answers, after = run(web, script)
            self.assertEqual(runner.run(script), answers)
            self.assertEqual([one_by_one.do(statement) for statement in script], answers)
            self.assertEqual([runner.web, one_by_one.web], [after, after])

    def test_long_runs(self):
        """Do, run and undo in any order, compared with a list of the webs before what was done."""
        chance = random.Random(42)
        seen = []
        for web, script in random_cases(120):
            runner, now, past = Runner(web), web, []
            for _ in range(60):
                action = chance.choice(["do", "run", "undo"])
                seen.append(action)
                if action == "undo":
                    if past:
                        now = past.pop()
                        self.assertIsNone(runner.undo())
                    else:
                        self.assertRaises(NothingToUndo, runner.undo)
                        seen.append("nothing")
                else:
                    some = [random_statement(chance) for _ in range(1 if action == "do" else chance.randint(0, 5))]
                    told = runner.run(some) if action == "run" else [runner.do(some[0])]
                    for statement, answer in zip(some, told):
                        expected, after = run(now, [statement])
                        self.assertEqual([answer], expected)
                        if answer == "done":
                            past.append(now)
                            seen.append(now == after)
                        now = after
                self.assertEqual(runner.web, now)
            self.assertEqual(undone(runner), past[::-1])
        for told in ["do", "run", "undo", "nothing", True, False]:
            self.assertGreater(seen.count(told), 100)


class Undoing(unittest.TestCase):
    def test_to_the_beginning_and_once_more(self):
        for kind in KINDS:
            runner = kind(WEB)
            for _ in range(2):
                self.assertRaises(NothingToUndo, runner.undo)
                self.assertEqual(runner.run([("name", "a", ("c",)), ("read", ("a",)), ("name", "b", ("a",))])[0], "done")
                self.assertIsNone(runner.undo())
                self.assertEqual(runner.web[1], (("a", 2), ("b", 0), ("c", 2)))
                runner.undo()
                self.assertEqual(runner.web, WEB)
                self.assertRaises(NothingToUndo, runner.undo)
                self.assertEqual(runner.web, WEB)

    def test_statement_by_statement_of_a_script(self):
        runner = Runner(WEB)
        runner.run([("set", ("a", "x"), value) for value in range(60)])
        for value in range(58, -1, -1):
            runner.undo()
            self.assertEqual(runner["b", "x"], value)
        runner.undo()
        self.assertEqual(runner.web, WEB)

    def test_statements_that_change_nothing(self):
        runner = Runner(WEB)
        answers = runner.run([("set", ("a", "x"), 9), ("set", ("a", "x"), 9), ("set", ("b", "x"), ("a", "x")),
                              ("name", "a", ("a",)), ("name", "a", ("b",)), ("set", ("a", "y"), ("b", "y"))])
        self.assertEqual(answers, ["done"] * 6)
        after = runner.web
        for _ in range(5):
            runner.undo()
            self.assertEqual(runner.web, after)
        runner.undo()
        self.assertEqual(runner.web, WEB)
        self.assertRaises(NothingToUndo, runner.undo)

    def test_what_is_not_done_is_not_undone(self):
        runner = Runner(WEB)
        runner.do(("set", ("a", "x"), 5))
        runner.run([("read", ("a", "x")), ("set", ("c", "z"), 1), ("set", ("a", "q"), 1), ("set", ("a", "x"), ("d",)),
                    ("name", "d", ("a",)), ("name", "a", ("a", "x"))])
        runner.undo()
        self.assertEqual(runner.web, WEB)
        self.assertRaises(NothingToUndo, runner.undo)

    def test_undone_is_not_undone_again(self):
        runner = Runner(WEB)
        runner.run([("set", ("a", "x"), 5), ("set", ("a", "x"), 6)])
        runner.undo()
        runner.do(("set", ("a", "x"), 7))
        self.assertEqual([web[0][0][1][0][1] for web in undone(runner)], [5, 1])

    def test_many_statements(self):
        runner = Runner(WEB)
        for at in range(50):
            runner.run([("set", ("a", "x"), 100 * at + number) for number in range(60)])
        self.assertEqual(len(undone(runner)), 3000)
        self.assertEqual(runner.web, WEB)

    def test_runners_do_not_share_anything(self):
        one, two = Runner(WEB), Runner(WEB)
        one.do(("set", ("a", "x"), 5))
        self.assertEqual(two.web, WEB)
        self.assertRaises(NothingToUndo, two.undo)
        self.assertEqual(one["a", "x"], 5)


class Properties(unittest.TestCase):
    def test_web_and_names(self):
        for kind in KINDS:
            for web in WEBS:
                runner = kind(web)
                self.assertEqual([runner.web, runner.names], [web, tuple(names_of(web))])
                self.assertIs(type(runner.names), tuple)
                self.assertIs(type(runner.web), tuple)

    def test_names_stay(self):
        runner = Runner(WEB)
        runner.run([("name", "a", ("c",)), ("name", "d", ("c",))])
        self.assertEqual(runner.names, ("a", "b", "c"))

    def test_they_are_properties(self):
        for kind, words in [(Runner, ["web", "names"]), (StillRunner, ["web", "names", "refusals"])]:
            for word in words:
                self.assertIsInstance(getattr(kind, word), property)
                with self.assertRaises(AttributeError):
                    setattr(kind(WEB), word, None)

    def test_most(self):
        self.assertEqual([Runner.MOST, StillRunner.MOST, Runner(WEB).MOST, MOST_OBJECTS], [30] * 4)
        self.assertIs(type(Runner.MOST), int)


class Reading(unittest.TestCase):
    def test_answers(self):
        for kind in KINDS:
            runner = kind(WEB)
            for path in all_paths("abcd", "xyz", 4):
                self.assertEqual(runner[path], look(WEB, path))
                self.assertIs(path in runner, look(WEB, path) != "none")

    def test_zero_is_there(self):
        runner = Runner(((("open", (("x", 0),)),), NAMES))
        self.assertEqual([("a", "x") in runner, runner["a", "x"], ("a", "y") in runner], [True, 0, False])

    def test_random_webs(self):
        for web in some_webs(60):
            runner = Runner(web)
            found = leading_paths(web, 4)
            for path in all_paths("abc", "fn", 4):
                self.assertEqual([runner[path], path in runner], [look(web, path), path in found])

    def test_after_changes(self):
        runner = Runner(WEB)
        runner.run([("set", ("a", "x"), ("c",)), ("name", "b", ("a", "y"))])
        self.assertEqual([runner["a", "x", "z"], runner[("b",)], ("b", "x") in runner], [7, ("frozen", ("z",)), False])
        runner.undo()
        self.assertEqual(runner[("b",)], ("open", ("x", "y")))

    def test_long_paths(self):
        runner = Runner(SELF)
        self.assertEqual(runner[("a",) + ("me",) * 62 + ("v",)], -4)
        self.assertTrue(("a",) + ("me",) * 63 in runner)
        self.assertFalse(("a",) + ("me",) * 64 in runner)

    def test_what_is_no_path(self):
        for kind in KINDS:
            runner = kind(WEB)
            for value in NO_PATHS + [WEB, runner, Runner, 1.5, {"a"}, b"a"]:
                with self.subTest(value):
                    self.assertIs(value in runner, False)
                    self.assertIs(value not in runner, True)
                    with self.assertRaises(InvalidPath):
                        runner[value]
            with self.assertRaises(InvalidPath):
                runner[0:1]

    def test_no_iteration(self):
        for kind in KINDS:
            runner = kind(WEB)
            for attempt in [iter, list, tuple, sorted, set, lambda one: [*one], lambda one: [path for path in one], dict]:
                with self.assertRaises(TypeError):
                    attempt(runner)

    def test_length(self):
        for web in some_webs(40):
            for kind in KINDS:
                self.assertEqual(len(kind(web)), len(met_by_all(web)))
        runner = Runner(WEB)
        self.assertEqual(len(runner), 3)
        runner.do(("set", ("a", "y"), 5))
        self.assertEqual(len(runner), 2)
        runner.do(("name", "c", ("a",)))
        self.assertEqual([len(runner), len(runner.web[0])], [1, 3])
        runner.undo()
        runner.undo()
        self.assertEqual(len(runner), 3)

    def test_reading_changes_nothing(self):
        runner = StillRunner(WEB)
        runner.run([("name", "a", ("b",)), ("set", ("a", "x"), 1)])
        before = state(runner)
        runner["a", "x"], ("a", "x") in runner, len(runner), runner == Runner(WEB), runner.web, runner.names
        list(runner.paths(6))
        self.assertEqual(state(runner), before)
        self.assertEqual(undone(runner), [WEB])


class Equality(unittest.TestCase):
    def equal(self, one, two, answer):
        with self.subTest(one=one.web, two=two.web):
            for first, second in [(one, two), (two, one)]:
                self.assertIs(first == second, answer)
                self.assertIs(first != second, not answer)

    def test_webs_that_look_the_same(self):
        chance = random.Random(43)
        for web in some_webs(60):
            for kind, other in itertools.product(KINDS, repeat=2):
                for two in [web, still_split(chance, web), least(web), trimmed(web)]:
                    self.equal(kind(web), other(two), True)

    def test_webs_that_do_not(self):
        chance = random.Random(44)
        seen = []
        for _ in range(300):
            one, two = [dense_web(chance, chance.choice([1, 2, 2, 3]), "ab") for _ in range(2)]
            seen.append(same(one, two))
            for kind, other in itertools.product(KINDS, repeat=2):
                self.equal(kind(one), other(two), seen[-1])
        self.assertGreater(min(seen.count(True), seen.count(False)), 5)

    def test_unlike_lengths(self):
        one, two = Runner((row(1), NAMES)), Runner((row(30), NAMES))
        self.equal(one, two, True)
        self.assertEqual([len(one), len(two)], [1, 30])

    def test_other_names(self):
        for names in [(("b", 0),), (("a", 0), ("b", 0)), (("aa", 0),)]:
            for kind, other in itertools.product(KINDS, repeat=2):
                self.equal(kind(SMALLEST), other((SMALLEST[0], names)), False)

    def test_the_present_webs_count(self):
        one, two = Runner(WEB), Runner(WEB)
        one.do(("set", ("a", "x"), 5))
        self.equal(one, two, False)
        two.run([("set", ("b", "x"), 6), ("set", ("b", "x"), 5)])
        self.equal(one, two, True)
        two.undo()
        self.equal(one, two, False)
        two.undo()
        one.undo()
        self.equal(one, two, True)

    def test_refusals_do_not_count(self):
        one, two = StillRunner(WEB), StillRunner(WEB)
        one.do(("set", ("a", "x"), 5))
        self.equal(one, two, True)
        self.equal(one, Runner(WEB), True)

    def test_what_is_no_runner(self):
        for kind in KINDS:
            runner = kind(WEB)
            for value in JUNK + [WEB, write(WEB), [WEB], kind, object(), 1.5]:
                self.assertIs(runner == value, False)
                self.assertIs(value == runner, False)
                self.assertIs(runner != value, True)


class Walks(unittest.TestCase):
    def test_example(self):
        self.assertEqual(list(Runner(WEB).paths(1)), [("a",), ("b",), ("c",)])
        self.assertEqual(list(Runner(WEB).paths(2)), [("a",), ("b",), ("c",), ("a", "x"), ("a", "y"), ("b", "x"), ("b", "y"),
                                                      ("c", "z")])
        self.assertEqual(list(Runner(WEB).paths(3))[8:], [("a", "y", "z"), ("b", "y", "z")])
        self.assertEqual(list(Runner(WEB).paths(6)), list(Runner(WEB).paths(3)))

    def test_ascending_as_tuples(self):
        web = ((("open", (("c", 1), ("z", (0,)))),), (("a", 0), ("ab", 0)))
        self.assertEqual(list(Runner(web).paths(2)), [("a",), ("ab",), ("a", "c"), ("a", "z"), ("ab", "c"), ("ab", "z")])
        found = list(Runner(web).paths(6))
        self.assertEqual(found, sorted(found, key=lambda path: (len(path), path)))

    def test_rings(self):
        self.assertEqual(list(Runner(SELF).paths(3)), [
            ("a",), ("b",), ("a", "me"), ("a", "v"), ("b", "me"), ("b", "v"), ("a", "me", "me"), ("a", "me", "v"),
            ("b", "me", "me"), ("b", "me", "v")])
        self.assertEqual(list(Runner((row(2), NAMES)).paths(6)), [("a",) + ("n",) * many for many in range(6)])
        both = ((("open", (("l", (0,)), ("r", (0,)))),), NAMES)
        self.assertEqual(len(list(Runner(both).paths(6))), 63)

    def test_all_webs(self):
        for web in some_webs(60):
            if web != largest():
                for kind in KINDS:
                    for length in range(1, 5):
                        self.assertEqual(list(kind(web).paths(length)), leading_paths(web, length))
        for web, _ in random_cases(8):
            self.assertEqual(list(Runner(web).paths(6)), leading_paths(web, 6))

    def test_many_paths(self):
        web = ((("open", tuple([(word, (0,)) for word in "abcd"])),), tuple([(word, 0) for word in "abcdef"]))
        found = list(Runner(web).paths(6))
        self.assertEqual(len(found), 6 * (1 + 4 + 16 + 64 + 256 + 1024))
        self.assertEqual(found, all_paths("abcdef", "abcd", 6))

    def test_an_iterator(self):
        walk = Runner(WEB).paths(2)
        self.assertIs(iter(walk), walk)
        self.assertEqual([next(walk), next(walk)], [("a",), ("b",)])
        self.assertEqual(list(walk), list(Runner(WEB).paths(2))[2:])
        self.assertEqual(list(walk), [])
        self.assertTrue(all(type(path) is tuple for path in Runner(WEB).paths(2)))

    def test_changes_during_a_walk(self):
        for changed in [("set", ("a", "y"), 5), ("set", ("b", "x"), ("a",)), ("name", "c", ("a",))]:
            expected = list(Runner(WEB).paths(5))
            for many in range(1, len(expected) + 1):
                runner = Runner(WEB)
                walk = runner.paths(5)
                found = [next(walk) for _ in range(many)]
                runner.do(changed)
                found += list(walk)
                self.assertEqual(found, expected)
                self.assertNotEqual(list(runner.paths(5)), expected)

    def test_undo_during_a_walk(self):
        runner = Runner(WEB)
        runner.do(("name", "c", ("a",)))
        expected = list(runner.paths(4))
        walk = runner.paths(4)
        found = [next(walk)]
        runner.undo()
        self.assertEqual(found + list(walk), expected)

    def test_changes_before_the_first_path_count(self):
        runner = Runner(WEB)
        walk = runner.paths(4)
        runner.run([("set", ("a", "y"), 5), ("name", "c", ("a",))])
        self.assertEqual(list(walk), list(runner.paths(4)))
        walk = runner.paths(4)
        runner.undo()
        runner.undo()
        self.assertEqual(list(walk), list(Runner(WEB).paths(4)))

    def test_walks_side_by_side(self):
        runner = Runner(WEB)
        one, two, three = runner.paths(3), runner.paths(2), runner.paths(3)
        old = list(runner.paths(3))
        found = [[next(one), next(one)], [next(two)], []]
        runner.do(("set", ("b", "y"), 5))
        new = list(runner.paths(3))
        for _ in range(4):
            for walk, paths in zip([one, two, three], found):
                paths.append(next(walk))
        self.assertEqual([found[0] + list(one), found[1] + list(two), found[2] + list(three)], [old, old[:8], new])
        self.assertEqual(leading_paths(runner.web, 3), new)
        self.assertEqual([(a, b) for a in runner.paths(2) for b in runner.paths(1)],
                         list(itertools.product(runner.paths(2), runner.paths(1))))

    def test_invalid_lengths(self):
        for kind in KINDS:
            for length in NO_LENGTHS:
                with self.subTest(length), self.assertRaises(InvalidNumber):
                    next(kind(WEB).paths(length))
            for length in range(1, 7):
                self.assertEqual(next(kind(WEB).paths(length)), ("a",))
            self.assertEqual(list(kind(WEB).paths(length=1)), [("a",), ("b",), ("c",)])

    def test_each_step_is_quick(self):
        fields = tuple([(word, (at,)) for word, at in zip("abcd", [29, 0, 1, 17])])
        walk = Runner(((("open", fields),) * 30, tuple([(word, 0) for word in "abcdef"]))).paths(6)
        worst = 0
        for _ in range(8190):
            start = time.perf_counter()
            next(walk)
            worst = max(worst, time.perf_counter() - start)
        self.assertLess(worst, 1)
        self.assertEqual(list(walk), [])


class Texts(unittest.TestCase):
    def test_of_text(self):
        for kind in KINDS:
            for web in WEBS:
                runner = kind.of_text(write(web))
                self.assertIs(type(runner), kind)
                self.assertEqual(runner.web, web)
                self.assertRaises(NothingToUndo, runner.undo)
            self.assertEqual(kind.of_text(text="a=0\nopen").web, SMALLEST)
            self.assertIs(type(kind(WEB).of_text("a=0\nopen")), kind)
        self.assertEqual(StillRunner.of_text("a=0\nopen").refusals, 0)

    def test_invalid_texts(self):
        for kind in KINDS:
            for text in JUNK + [WEB, "a=0", "a=0\nopen\n", "a=00\nopen", ["a=0\nopen"]]:
                with self.subTest(text), self.assertRaises(InvalidText):
                    kind.of_text(text)


class Still(unittest.TestCase):
    def test_sets(self):
        runner = StillRunner(WEB)
        for path, value, answer in [
                (("a", "x"), 5, "refused"), (("a", "x"), 1, "refused"), (("b", "y"), ("c",), "refused"),
                (("c", "z"), 5, "refused"), (("a", "y", "z"), ("a",), "refused"), (("a", "q"), 5, "none"),
                (("d", "x"), 5, "none"), (("a", "x", "x"), 5, "none"), (("a", "x"), ("d",), "none"),
                (("a", "x"), ("a", "q"), "none"), (("c", "z"), ("c", "z", "z"), "none"), (("c", "q"), 1, "none")]:
            before = runner.refusals
            self.assertEqual(runner.do(("set", path, value)), answer)
            self.assertEqual(runner.refusals, before + (answer == "refused"))
            self.assertEqual(runner.web, WEB)
        self.assertEqual(runner.refusals, 5)
        self.assertRaises(NothingToUndo, runner.undo)

    def test_reads_and_names(self):
        runner = StillRunner(WEB)
        script = [("read", ("a", "x")), ("name", "a", ("c",)), ("read", ("a",)), ("name", "d", ("c",)), ("read", ("d",)),
                  ("name", "b", ("b", "x"))]
        self.assertEqual(runner.run(script), [1, "done", ("frozen", ("z",)), "none", "none", "none"])
        self.assertEqual([runner.web, runner.refusals], [(WEB[0], (("a", 2), ("b", 0), ("c", 2))), 0])

    def test_kinds_are_read_as_they_are(self):
        runner = StillRunner(WEB)
        self.assertEqual([runner[("a",)], runner.do(("read", ("a",)))], [("open", ("x", "y"))] * 2)

    def test_undo_changes_names_only(self):
        runner = StillRunner(WEB)
        runner.run([("set", ("a", "x"), 5), ("name", "a", ("c",)), ("set", ("b", "x"), 5), ("name", "b", ("a",)),
                    ("set", ("b", "z"), 5)])
        self.assertEqual(runner.refusals, 3)
        webs = undone(runner)
        self.assertEqual(webs, [(WEB[0], (("a", 2), ("b", 0), ("c", 2))), WEB])
        self.assertEqual(runner.refusals, 3)
        runner.do(("set", ("a", "x"), 5))
        self.assertEqual(runner.refusals, 4)

    def test_refusals_of_each_runner(self):
        one, two = StillRunner(WEB), StillRunner(WEB)
        one.run([("set", ("a", "x"), 5)] * 60)
        self.assertEqual([one.refusals, two.refusals], [60, 0])
        self.assertFalse(hasattr(Runner(WEB), "refusals"))

    def test_it_is_a_runner(self):
        self.assertEqual(StillRunner.__bases__, (Runner,))
        self.assertIsInstance(StillRunner(WEB), Runner)

    def test_random_scripts(self):
        """A set is answered as in the web in which everything is frozen."""
        seen = []
        for web, script in random_cases(200):
            runner = StillRunner(web)
            frozen = (tuple([("frozen", fields) for _, fields in web[0]]), web[1])
            told, after = run(frozen, script)
            answers = runner.run(script)
            for statement, answer, other in zip(script, answers, told):
                if statement[0] != "read" or not isinstance(answer, tuple):
                    self.assertEqual(answer, other)
                else:
                    self.assertEqual(answer[1], other[1])
            self.assertEqual(runner.web, (web[0], after[1]))
            refused = [answer for answer in answers if answer == "refused"]
            self.assertEqual(runner.refusals, len(refused))
            done = [answer for statement, answer in zip(script, answers) if statement[0] != "read" and answer == "done"]
            self.assertEqual(len(undone(runner)), len(done))
            self.assertEqual([runner.web, runner.refusals], [web, len(refused)])
            one_by_one = StillRunner(web)
            self.assertEqual([one_by_one.do(statement) for statement in script], answers)
            self.assertEqual(one_by_one.refusals, len(refused))
            seen += answers
        self.assertGreater(min(seen.count("none"), seen.count("refused"), seen.count("done")), 100)


class Arguments(unittest.TestCase):
    def test_invalid_webs(self):
        for kind in KINDS:
            for web in NO_WEBS + [write(WEB)]:
                with self.subTest(web), self.assertRaises(InvalidWeb):
                    kind(web)

    def test_invalid_statements(self):
        for kind in KINDS:
            runner = kind(WEB)
            runner.run([("name", "a", ("b",)), ("set", ("c", "z"), 5)])
            before = state(runner)
            for statement in NO_STATEMENTS:
                with self.subTest(statement), self.assertRaises(InvalidStatement):
                    runner.do(statement)
                self.assertEqual(state(runner), before)
            self.assertEqual(undone(runner), [WEB])

    def test_invalid_scripts(self):
        good = [("set", ("a", "x"), 5), ("name", "b", ("c",))]
        for kind in KINDS:
            runner = kind(WEB)
            runner.run([("name", "a", ("b",)), ("set", ("c", "z"), 5)])
            before = state(runner)
            bad = [good + [statement] for statement in NO_STATEMENTS] + [[statement] + good for statement in NO_STATEMENTS]
            for script in NO_SCRIPTS + [tuple(good), good * 31] + bad:
                self.assertFalse(is_script(script))
                with self.subTest(script), self.assertRaises(InvalidScript):
                    runner.run(script)
                self.assertEqual(state(runner), before)
            self.assertEqual(undone(runner), [WEB])

    def test_errors_between_statements(self):
        for kind in KINDS:
            plain, bothered = kind(WEB), kind(WEB)
            for statement in [("set", ("a", "x"), 5), ("name", "a", ("c",)), ("set", ("b", "y"), ("a",)), ("name", "c", ("b",))]:
                plain.do(statement)
                bothered.do(statement)
                self.assertRaises(InvalidStatement, bothered.do, ["read", ("a",)])
                self.assertRaises(InvalidScript, bothered.run, [statement, None])
                self.assertRaises(InvalidPath, lambda: bothered["a"])
                self.assertRaises(InvalidNumber, lambda: next(bothered.paths(0)))
                self.assertRaises(TypeError, iter, bothered)
                self.assertEqual(state(bothered), state(plain))
            self.assertEqual(undone(bothered), undone(plain))
            self.assertRaises(NothingToUndo, bothered.undo)
            self.assertEqual(state(bothered), state(plain))

    def test_by_name(self):
        for kind in KINDS:
            runner = kind(web=WEB)
            self.assertEqual(runner.do(statement=("read", ("a", "x"))), 1)
            self.assertEqual(runner.run(script=[("read", ("a", "x"))]), [1])

    def test_arguments_stay_as_they_were(self):
        for kind in KINDS:
            for web, script in random_cases(30):
                before = copy.deepcopy((web, script))
                runner = kind(web)
                runner.run(script)
                undone(runner)
                self.assertEqual((web, script), before)
            bad = [("set", ("a", "x"), 5), ["read", ["a"]]]
            before = copy.deepcopy(bad)
            self.assertRaises(InvalidScript, kind(WEB).run, bad)
            self.assertRaises(InvalidStatement, kind(WEB).do, bad)
            self.assertEqual(bad, before)

    def test_lists_belong_to_the_caller(self):
        runner = Runner(WEB)
        script = [("set", ("a", "x"), 5), ("read", ("a", "x"))]
        answers = runner.run(script)
        answers.append("more")
        answers[0] = None
        script.clear()
        self.assertEqual(runner.run([("read", ("a", "x"))]), [5])
        self.assertEqual(undone(runner), [WEB])
        empty = []
        self.assertIsNot(runner.run(empty), empty)

    def test_large_webs_take_less_than_a_second(self):
        names = tuple([(word, at) for at, word in enumerate("abcdef")])
        for objects in [row(30, "open"), row(30, "open", kind="open"), row(30), largest()[0]]:
            field = objects[0][1][0][0]
            path = ("a",) + (field,) * 63
            other = numbered((objects, names), list(range(29, -1, -1)))
            for kind in KINDS:
                start = time.perf_counter()
                runner = kind((objects, names))
                runner.run([("set", path, path)] * 60)
                runner[path], path in runner, len(runner), runner == kind(other), runner != Runner(RING)
                undone(runner)
                kind.of_text(write((objects, names)))
                self.assertLess(time.perf_counter() - start, 1)
        one = tuple([("frozen", (("l", ((at + 1) % 30,)), ("r", (at,)))) for at in range(30)])
        two = tuple([("frozen", (("l", (at,)), ("r", ((at + 1) % 30,)))) for at in range(30)])
        start = time.perf_counter()
        self.assertIs(Runner((one, NAMES)) == StillRunner((two, NAMES)), True)
        self.assertLess(time.perf_counter() - start, 1)
