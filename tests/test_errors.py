"""Point 9 and the interface of openfrozen/errors.py."""

import unittest

from openfrozen import errors

PLAIN = ["InvalidWeb", "InvalidPath", "InvalidScript", "InvalidStatement", "InvalidName", "InvalidValue",
         "InvalidText", "InvalidNumber", "OtherNames", "TooLarge", "NothingToUndo"]
WITH_PATH = ["NoObject", "NotFrozen"]


class Errors(unittest.TestCase):
    def test_bases(self):
        self.assertEqual(errors.WebError.__bases__, (ValueError,))
        for name in PLAIN + WITH_PATH:
            with self.subTest(name):
                self.assertEqual(getattr(errors, name).__bases__, (errors.WebError,))
                self.assertEqual(getattr(errors, name).__name__, name)
                self.assertEqual(getattr(errors, name).__module__, "openfrozen.errors")

    def test_there_are_no_others(self):
        found = [name for name in vars(errors) if not name.startswith("__")]
        self.assertEqual(sorted(found), sorted(PLAIN + WITH_PATH + ["WebError"]))

    def test_plain_errors_take_no_or_one_message(self):
        for name in PLAIN + ["WebError"]:
            with self.subTest(name):
                kind = getattr(errors, name)
                self.assertIsInstance(kind(), errors.WebError)
                self.assertIsInstance(kind("told"), errors.WebError)
                self.assertEqual(vars(kind("told")), {})

    def test_path_of_an_error(self):
        for name in WITH_PATH:
            for path in [("a", "x"), (), None, 5, ["a"], {"a": 1}, "text"]:
                with self.subTest(name=name, path=path):
                    kind = getattr(errors, name)
                    self.assertIs(kind(path).path, path)
                    self.assertIs(kind(path=path).path, path)
                    self.assertEqual(vars(kind(path)), {"path": path})

    def test_path_is_none_if_not_told(self):
        for name in WITH_PATH:
            with self.subTest(name):
                self.assertIsNone(getattr(errors, name)().path)

    def test_can_be_raised_and_caught(self):
        for name in PLAIN + WITH_PATH:
            with self.subTest(name), self.assertRaises(ValueError):
                raise getattr(errors, name)("told")
