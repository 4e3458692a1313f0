"""Points 5, 8, 9 and 11: statements with their answers, and scripts."""

import copy
import unittest

from openfrozen.errors import InvalidScript, InvalidWeb
from openfrozen.scripts import run
from openfrozen.webs import is_script, is_web
from tests.samples import JUNK, NO_SCRIPTS, RING, SELF, WEB, WEBS, Model, largest, random_cases


def with_x(value):
    """Return the example web with another value in the field x of its open object."""
    return (("open", (("x", value), ("y", (1,)))),) + WEB[0][1:], WEB[1]


class Statements(unittest.TestCase):
    def answers(self, web, statement, answer, after):
        with self.subTest(statement):
            self.assertEqual(run(web, [statement]), ([answer], after))

    def test_reads(self):
        for path, answer in [(("a", "x"), 1), (("a", "y", "z"), 7), (("a",), ("open", ("x", "y"))),
                             (("c",), ("frozen", ("z",))), (("d",), "none"), (("a", "q"), "none"),
                             (("a", "x", "x"), "none"), (("a", "y", "x"), "none")]:
            self.answers(WEB, ("read", path), answer, WEB)

    def test_set_to_integers(self):
        for value in [5, 0, 1, -999999999, 999999999]:
            self.answers(WEB, ("set", ("b", "x"), value), "done", with_x(value))

    def test_set_to_paths(self):
        self.answers(WEB, ("set", ("a", "x"), ("c",)), "done", with_x((2,)))
        self.answers(WEB, ("set", ("a", "x"), ("b",)), "done", with_x((0,)))
        self.answers(WEB, ("set", ("a", "x"), ("b", "y")), "done", with_x((1,)))
        self.answers(WEB, ("set", ("a", "x"), ("b", "y", "z")), "done", with_x(7))
        self.answers(WEB, ("set", ("a", "x"), ("a", "x")), "done", WEB)

    def test_set_of_a_reference(self):
        after = ((("open", (("x", 1), ("y", 4))),) + WEB[0][1:], WEB[1])
        self.answers(WEB, ("set", ("a", "y"), 4), "done", after)

    def test_set_refused(self):
        for path in [("c", "z"), ("a", "y", "z")]:
            for value in [1, 7, ("a",), ("c",), ("a", "x")]:
                self.answers(WEB, ("set", path, value), "refused", WEB)

    def test_set_nowhere(self):
        for path in [("d", "x"), ("a", "q"), ("a", "z"), ("c", "x"), ("a", "x", "x"), ("a", "y", "x"),
                     ("a", "q", "x"), ("a", "x", "y", "z"), ("a", "y", "z", "z")]:
            for value in [1, ("a",), ("c", "z"), ("d",)]:
                self.answers(WEB, ("set", path, value), "none", WEB)

    def test_set_to_a_path_that_leads_nowhere(self):
        for path in [("a", "x"), ("a", "y"), ("c", "z"), ("a", "y", "z"), ("d", "x")]:
            for value in [("d",), ("a", "q"), ("a", "x", "x"), ("c", "x")]:
                self.answers(WEB, ("set", path, value), "none", WEB)

    def test_names(self):
        for word, path, number in [("a", ("c",), 2), ("c", ("a",), 0), ("b", ("a", "y"), 1), ("b", ("b",), 0)]:
            names = tuple([(key, number if key == word else old) for key, old in WEB[1]])
            self.answers(WEB, ("name", word, path), "done", (WEB[0], names))

    def test_names_with_none(self):
        for word, path in [("d", ("a",)), ("x", ("a",)), ("a", ("d",)), ("a", ("a", "x")), ("a", ("a", "q")),
                           ("a", ("c", "z")), ("d", ("d",)), ("d", ("a", "x"))]:
            self.answers(WEB, ("name", word, path), "none", WEB)

    def test_zero_in_all_places(self):
        web = ((("open", (("x", 0), ("y", 1))),), (("a", 0),))
        self.answers(web, ("set", ("a", "x"), 5), "done", ((("open", (("x", 5), ("y", 1))),), (("a", 0),)))
        self.answers(web, ("set", ("a", "y"), ("a", "x")), "done", ((("open", (("x", 0), ("y", 0))),), (("a", 0),)))
        self.answers(web, ("name", "a", ("a", "x")), "none", web)


class Runs(unittest.TestCase):
    def test_all_names_of_an_object_see_a_change(self):
        script = [("set", ("a", "x"), 5), ("read", ("b", "x")), ("set", ("b", "x"), ("c",)), ("read", ("a", "x", "z"))]
        self.assertEqual(run(WEB, script), (["done", 5, "done", 7], with_x((2,))))

    def test_a_name_statement_changes_one_name(self):
        script = [("name", "a", ("c",)), ("read", ("a",)), ("read", ("b",)), ("set", ("b", "x"), ("a",))]
        after = (with_x((2,))[0], (("a", 2), ("b", 0), ("c", 2)))
        self.assertEqual(run(WEB, script), (["done", ("frozen", ("z",)), ("open", ("x", "y")), "done"], after))

    def test_value_is_followed_before_the_set(self):
        script = [("set", ("a", "me"), ("a", "me", "v")), ("read", ("a", "me")), ("set", ("b", "v"), ("b", "me", "v"))]
        after = ((("open", (("me", -4), ("v", -4))),), SELF[1])
        self.assertEqual(run(SELF, script), (["done", -4, "none"], after))

    def test_a_change_goes_round_a_ring(self):
        script = [("set", ("a", "n", "v"), 8), ("read", ("b", "n", "n", "n", "v")), ("set", ("b", "n"), ("b",)),
                  ("read", ("a", "n", "n", "n", "v")), ("set", ("a", "n"), 1), ("name", "a", ("b", "n", "n"))]
        objects = (RING[0][0], ("open", (("n", (1,)), ("v", 8))), RING[0][2])
        self.assertEqual(run(RING, script), (["done", 8, "done", 8, "refused", "done"], (objects, (("a", 1), ("b", 1)))))

    def test_objects_stay_under_their_numbers(self):
        web = ((("open", (("x", (1,)),)), ("open", (("y", 2),))), (("a", 0),))
        after = ((("open", (("x", 3),)), ("open", (("y", 2),))), (("a", 0),))
        self.assertEqual(run(web, [("set", ("a", "x"), 3)]), (["done"], after))

    def test_no_statements(self):
        for web in WEBS:
            self.assertEqual(run(web, []), ([], web))

    def test_sixty_statements_with_long_paths(self):
        path = ("a",) + ("me",) * 62
        script = [("set", path + ("v",), number) for number in range(59)] + [("read", ("b", "v"))]
        answers, after = run(SELF, script)
        self.assertEqual(answers, ["done"] * 59 + [58])
        self.assertEqual(after, ((("open", (("me", (0,)), ("v", 58))),), SELF[1]))

    def test_largest_web(self):
        script = [("set", ("c", "m"), ("b",)), ("read", ("d", "m", "n")), ("set", ("b", "m"), 1)]
        web = largest()
        answers, after = run(web, script)
        self.assertEqual(answers, ["done", 999999999, "refused"])
        self.assertEqual(after[0][1], ("open", (("abcdefgh", (29,)), ("m", (0,)), ("n", 999999999), ("zzzzzzzz", (0,)))))
        self.assertEqual(after[0][2:], web[0][2:])

    def test_random_scripts(self):
        seen = {}
        for web, script in random_cases(400):
            with self.subTest(web=web, script=script):
                self.assertTrue(is_web(web) and is_script(script))
                model = Model(web)
                expected = [model.do(statement) for statement in script]
                answers, after = run(web, script)
                self.assertEqual(answers, expected)
                self.assertEqual(after, model.web())
                self.assertTrue(is_web(after))
            seen.update({(statement[0], answer): True for statement, answer in zip(script, expected)})
        for told in [("set", "none"), ("set", "refused"), ("set", "done"), ("name", "none"), ("name", "done"),
                     ("read", "none")]:
            self.assertIn(told, seen)


class Arguments(unittest.TestCase):
    def test_invalid_webs(self):
        for web in JUNK + [list(WEB), (WEB[0], ()), (WEB[0], (("a", 3),))]:
            for script in [[], [("read", ("a",))], None, (), [None], web]:
                with self.subTest(web=web, script=script), self.assertRaises(InvalidWeb):
                    run(web, script)

    def test_invalid_scripts(self):
        for script in NO_SCRIPTS:
            with self.subTest(script), self.assertRaises(InvalidScript):
                run(WEB, script)

    def test_one_wrong_statement_among_others(self):
        good = ("set", ("a", "x"), 5)
        for at in range(4):
            script = [good] * 3
            script.insert(at, ("set", ("a",), 5))
            with self.assertRaises(InvalidScript):
                run(WEB, script)

    def test_by_name_in_another_order(self):
        self.assertEqual(run(script=[("read", ("a", "x"))], web=WEB), ([1], WEB))
        with self.assertRaises(InvalidWeb):
            run(script=None, web=None)

    def test_kinds_of_the_answer(self):
        told = run(WEB, [("read", ("a",))])
        self.assertIs(type(told), tuple)
        self.assertIs(type(told[0]), list)
        self.assertIs(type(told[0][0]), tuple)

    def test_arguments_stay_as_they_were(self):
        for web, script in random_cases(50):
            before = copy.deepcopy((web, script))
            run(web, script)
            self.assertEqual((web, script), before)

    def test_the_list_belongs_to_the_caller(self):
        script = [("set", ("a", "x"), 5), ("read", ("a", "x"))]
        answers, after = run(WEB, script)
        answers.append("more")
        answers[0] = None
        self.assertEqual(run(WEB, script), (["done", 5], with_x(5)))
        self.assertEqual(after, with_x(5))
        self.assertEqual(script, [("set", ("a", "x"), 5), ("read", ("a", "x"))])
