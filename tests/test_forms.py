"""Points 3, 4, 5, 8 and 10: what is a web, a path or a script, and what is not."""

import unittest

from openfrozen.webs import is_path, is_script, is_web
from tests.samples import DEEP, JUNK, LETTERS, LONG, SMALLEST, WEB, WEBS, changed_in_kind

PATHS = [("a",), ("a", "x"), ("nowhere", "at", "all"), (LONG,) * 64, tuple(LETTERS), ("a", "a", "a")]
STATEMENTS = [
    ("read", ("a",)), ("read", (LONG,) * 64), ("set", ("a", "x"), 5), ("set", ("a", "x"), ("b",)),
    ("set", ("a",) * 64, ("b",) * 64), ("set", ("a", "x"), -999999999), ("set", ("a", "x"), 999999999),
    ("name", "a", ("b",)), ("name", LONG, ("nowhere", "x")),
]
# Words that are none: bounds, signs beside a to z, line ends, and other kinds.
NO_WORDS = ["", "abcdefghi", "A", "aB", "a b", " a", "a ", "a\n", "\na", "a\t", "`", "{", "a1", "a_b", "@", "~",
            None, True, False, 1, ("a",), ["a"], {"a": 1}, DEEP]
NO_INTS = [True, False, None, -1000000000, 1000000000, 10 ** 40, -10 ** 40, "1", "", [1], {}, {1: 1}]


class Answers(unittest.TestCase):
    def told(self, function, value, answer):
        with self.subTest(function=function.__name__, value=value):
            self.assertIs(function(value), answer)


class AnyValue(Answers):
    def test_junk_is_nothing(self):
        for value in JUNK:
            for function in [is_web, is_path, is_script]:
                self.told(function, value, False)

    def test_one_is_not_the_other(self):
        for value in WEBS:
            self.told(is_path, value, False)
            self.told(is_script, value, False)
        for value in PATHS:
            self.told(is_web, value, False)
            self.told(is_script, value, False)
        self.told(is_web, STATEMENTS, False)
        self.told(is_path, STATEMENTS, False)

    def test_by_name(self):
        self.assertIs(is_web(value=WEB), True)
        self.assertIs(is_path(value=("a",)), True)
        self.assertIs(is_script(value=[]), True)

    def test_large_values(self):
        many = 200000
        for value in [("a",) * many, [("read", ("a",))] * many, (("a",) * many, ("a",) * many), "a" * many]:
            self.assertEqual([is_web(value), is_path(value), is_script(value)], [False, False, False])


class Webs(Answers):
    def test_webs(self):
        for web in WEBS:
            self.told(is_web, web, True)

    def test_changed_in_kind(self):
        for web in WEBS[:-1]:
            for value in changed_in_kind(web):
                self.told(is_web, value, False)

    def test_parts_of_a_web(self):
        for value in [WEB[0], WEB[1], (WEB[0],), WEB + (WEB[1],), WEB + WEB, (WEB[1], WEB[0]), list(WEB)]:
            self.told(is_web, value, False)

    def test_number_of_objects(self):
        item = ("frozen", ())
        for many, answer in [(0, False), (1, True), (2, True), (29, True), (30, True), (31, False), (60, False)]:
            self.told(is_web, ((item,) * many, (("a", 0),)), answer)

    def test_number_of_fields(self):
        for many, answer in [(0, True), (1, True), (4, True), (5, False), (9, False)]:
            fields = tuple([(word, 0) for word in LETTERS[:many]])
            self.told(is_web, ((("open", fields),), (("a", 0),)), answer)

    def test_number_of_names(self):
        for many, answer in [(0, False), (1, True), (5, True), (6, True), (7, False), (12, False)]:
            self.told(is_web, (SMALLEST[0], tuple([(word, 0) for word in LETTERS[:many]])), answer)

    def test_kinds(self):
        for kind, answer in [("open", True), ("frozen", True), ("Open", False), ("open\n", False), ("", False),
                             ("still", False), (None, False), (True, False), (0, False), (["open"], False),
                             (("open",), False), ({}, False), (DEEP, False)]:
            self.told(is_web, (((kind, ()),), (("a", 0),)), answer)

    def test_words(self):
        for word in ["a", "z", "az", LONG, "zzzzzzzz", "open"]:
            self.told(is_web, ((("open", ((word, 1),)),), (("a", 0),)), True)
            self.told(is_web, (SMALLEST[0], ((word, 0),)), True)
        for word in NO_WORDS:
            self.told(is_web, ((("open", ((word, 1),)),), (("a", 0),)), False)
            self.told(is_web, (SMALLEST[0], ((word, 0),)), False)

    def test_order_of_the_words(self):
        for words, answer in [("ab", True), ("ba", False), ("aa", False), ("abb", False), ("acb", False),
                              (["a", "aa", "b"], True), (["aa", "a"], False), (["b", "aa"], False)]:
            pairs = tuple([(word, 0) for word in words])
            self.told(is_web, ((("open", pairs),), (("a", 0),)), answer)
            self.told(is_web, (SMALLEST[0], pairs), answer)

    def test_integers_of_fields(self):
        for number in [-999999999, -1, 0, 1, 999999999]:
            self.told(is_web, ((("open", (("x", number),)),), (("a", 0),)), True)
        for number in NO_INTS:
            self.told(is_web, ((("open", (("x", number),)),), (("a", 0),)), False)

    def test_references(self):
        rest = (("open", ()), ("open", ()))
        for value, answer in [((0,), True), ((1,), True), ((2,), True), ((3,), False), ((-1,), False),
                              ((True,), False), ((False,), False), ((None,), False), (("a",), False), ((), False),
                              ((0, 0), False), ([0], False), (((0,),), False), ((10 ** 20,), False), ("0", False)]:
            self.told(is_web, ((("open", (("x", value),)),) + rest, (("a", 0),)), answer)

    def test_numbers_of_names(self):
        objects = (("open", ()), ("open", ()))
        for number, answer in [(0, True), (1, True), (2, False), (-1, False), (True, False), (False, False),
                               (None, False), ((0,), False), ([0], False), ("0", False), (10 ** 20, False)]:
            self.told(is_web, (objects, (("a", 0), ("b", number))), answer)

    def test_pairs(self):
        for pair in [("x",), ("x", 1, 1), ["x", 1], "xy", (), None, {"x": 1}, (1, "x")]:
            self.told(is_web, ((("open", (pair,)),), (("a", 0),)), False)
            self.told(is_web, (SMALLEST[0], (pair,)), False)

    def test_objects(self):
        for item in [("open",), ("open", (), ()), ["open", ()], ("open", []), ("open", None), ("open", 0),
                     ("open", {}), ("open", ""), (), None, "open", 0, ((), "open")]:
            self.told(is_web, ((item,), (("a", 0),)), False)
            self.told(is_web, ((("open", ()), item), (("a", 0),)), False)


class Paths(Answers):
    def test_paths(self):
        for path in PATHS:
            self.told(is_path, path, True)

    def test_changed_in_kind(self):
        for path in PATHS:
            for value in changed_in_kind(path):
                self.told(is_path, value, False)

    def test_length(self):
        for many, answer in [(0, False), (1, True), (63, True), (64, True), (65, False), (128, False)]:
            self.told(is_path, ("a",) * many, answer)

    def test_words(self):
        for word in NO_WORDS:
            for path in [(word,), ("a", word), (word, "a"), ("a",) * 63 + (word,)]:
                self.told(is_path, path, False)

    def test_a_word_is_no_path(self):
        for value in ["a", "abc", ["a"], {"a": "b"}]:
            self.told(is_path, value, False)


class Scripts(Answers):
    def test_scripts(self):
        self.told(is_script, [], True)
        self.told(is_script, STATEMENTS, True)
        for statement in STATEMENTS:
            self.told(is_script, [statement], True)

    def test_changed_in_kind(self):
        for statement in STATEMENTS:
            if len(repr(statement)) < 100:
                for value in changed_in_kind(statement):
                    self.told(is_script, [value], False)
                    self.told(is_script, STATEMENTS + [value], False)
                    self.told(is_script, [value] + STATEMENTS, False)

    def test_a_script_is_a_list(self):
        for value in [tuple(STATEMENTS), (), {}, dict(enumerate(STATEMENTS)), STATEMENTS[0], [STATEMENTS], None]:
            self.told(is_script, value, False)

    def test_length(self):
        for many, answer in [(0, True), (1, True), (59, True), (60, True), (61, False), (120, False)]:
            self.told(is_script, [("read", ("a",))] * many, answer)

    def test_actions(self):
        for action in ["Read", "", "get", "read\n", None, True, 0, ("read",), ["read"], {}, DEEP]:
            self.told(is_script, [(action, ("a",))], False)
            self.told(is_script, [(action, ("a", "x"), 1)], False)
            self.told(is_script, [(action, "a", ("a",))], False)

    def test_number_of_entries(self):
        for statement in [(), ("read",), ("set",), ("name",), ("read", ("a",), 1), ("read", ("a",), ("a",)),
                          ("set", ("a", "x")), ("set", ("a", "x"), 1, 1), ("name", "a"), ("name", "a", ("a",), 1),
                          ("name", ("a",))]:
            self.told(is_script, [statement], False)

    def test_path_of_a_set(self):
        for many, answer in [(0, False), (1, False), (2, True), (64, True), (65, False)]:
            self.told(is_script, [("set", ("a",) * many, 1)], answer)

    def test_value_of_a_set(self):
        for value, answer in [(("b",), True), (("b",) * 64, True), (("b",) * 65, False), ((), False), ((0,), False),
                              (("A",), False), (-1, True), (0, True), ("b", False), (["b"], False)]:
            self.told(is_script, [("set", ("a", "x"), value)], answer)
        for value in NO_INTS:
            self.told(is_script, [("set", ("a", "x"), value)], False)

    def test_paths_of_statements(self):
        for path in [(), ("a",) * 65, "a", ["a"], None, 0, ("a", 1), ("a", "X"), {"a": 1}]:
            self.told(is_script, [("read", path)], False)
            self.told(is_script, [("set", path, 1)], False)
            self.told(is_script, [("name", "a", path)], False)

    def test_word_of_a_name_statement(self):
        for word in NO_WORDS:
            self.told(is_script, [("name", word, ("a",))], False)
