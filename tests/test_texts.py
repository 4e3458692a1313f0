"""Points 8, 9 and 15: webs as texts, and texts as webs."""

import copy
import random
import re
import time
import unittest

from openfrozen.errors import InvalidText, InvalidWeb
from openfrozen.texts import read, write
from openfrozen.webs import is_web
from tests.samples import JUNK, LONG, NO_WEBS, SMALLEST, WEB, WEBS, dense_web, largest, random_cases

TEXT = "a=0 b=0 c=2\nopen x=1 y=#1\nfrozen z=7\nfrozen z=7"
# Each text with its web.
TEXTS = [
    (TEXT, WEB),
    ("a=0\nopen", SMALLEST),
    ("a=1 b=0\nfrozen\nopen x=-3 y=#0", ((("frozen", ()), ("open", (("x", -3), ("y", (0,))))), (("a", 1), ("b", 0)))),
    ("a=0\nopen x=0", ((("open", (("x", 0),)),), (("a", 0),))),
    ("a=0\nfrozen x=-999999999 y=999999999", ((("frozen", (("x", -999999999), ("y", 999999999))),), (("a", 0),))),
    ("frozen=0 open=0\nopen frozen=1 open=#0", ((("open", (("frozen", 1), ("open", (0,)))),), (("frozen", 0), ("open", 0)))),
    ("abcdefgh=0 zzzzzzzz=0\nopen abcdefgh=10", ((("open", (("abcdefgh", 10),)),), ((LONG, 0), ("zzzzzzzz", 0)))),
]
NO_TEXTS = JUNK + [
    # Signs, zeros, blanks and line ends that no web's text has.
    "a=+0\nopen", "a=-0\nopen", "a=00\nopen", "a=0_0\nopen", "a= 0\nopen", "a =0\nopen", "a=0 \nopen", " a=0\nopen",
    "a=0\n open", "a=0\nopen ", "a=0\nopen\n", "\na=0\nopen", "a=0\n\nopen", "a=0\r\nopen", "a=0\topen", "a=0 open",
    "a=0\nopen\tx=1", "a=0\nopen  x=1", "a=0\nopen x=1 ", "a=0\nopen x=+1", "a=0\nopen x=-0", "a=0\nopen x=01",
    "a=0\nopen x=--1", "a=0\nopen x=-", "a=0\nopen x=- 1", "a=0\nopen x=1_0", "a=0\nopen x=1.0", "a=0\nopen x=1e3",
    "a=0\nopen x=0x1", "a=0\nopen x=", "a=0\nopen x", "a=0\nopen =1", "a=0\nopen x==1", "a=0\nopen x=1=1",
    "a=0\nopen x=one", "a=0\nopen x=None", "a=0\nopen x=True", "a=0\nopen x=(0,)", "a=0\nopen x:1", "a=0\nopen,x=1",
    # References.
    "a=0\nopen x=#", "a=0\nopen x=#1", "a=0\nopen x=#-0", "a=0\nopen x=#-1", "a=0\nopen x=#+0", "a=0\nopen x=#00",
    "a=0\nopen x=##0", "a=0\nopen x=# 0", "a=0\nopen x=0#", "a=0\nopen x=-#0", "a=0\nopen x=#a", "a=#0\nopen",
    "a=0\nopen #x=0", "#a=0\nopen", "a=0\n#open",
    # Names and words.
    "a=1\nopen", "a=-1\nopen", "a=\nopen", "a\nopen", "=0\nopen", "a=0 a=0\nopen", "b=0 a=0\nopen", "A=0\nopen",
    "abcdefghi=0\nopen", "a1=0\nopen", "\nopen", "open", "a=0", "a=0\n", "a=b\nopen", "a=0,b=0\nopen", "a=0 b\nopen",
    "a=0\nopen x=1 x=1", "a=0\nopen y=1 x=1", "a=0\nopen X=1", "a=0\nopen abcdefghi=1", "a=0\nopen a_b=1",
    # Kinds.
    "a=0\nOpen", "a=0\nclosed", "a=0\nopenfrozen", "a=0\nopen frozen", "a=0\nopen open x=1", "a=0\nx=1", "a=0\nope",
    "a=0\nopenx=1", "a=0\nfrozenx=1", "a=0\nopen=1", "a=0\nfrozen=#0",
    # More than there may be.
    "a=0\nopen a=1 b=1 c=1 d=1 e=1", "a=0 b=0 c=0 d=0 e=0 f=0 g=0\nopen", "a=0" + "\nopen" * 31, "a=30" + "\nopen" * 31,
    "a=0\nopen x=1000000000", "a=0\nopen x=-1000000000", "a=0\nopen x=0000000001", "a=1000000000\nopen",
    "a=0\nopen x=" + "9" * 5000, "a=0\nopen x=-" + "9" * 5000, "a=0\nopen x=#" + "9" * 5000, "a=" + "0" * 5000 + "\nopen",
    "a=" + "9" * 5000 + "\nopen", "a=0\nopen x=" + "0" * 5000 + "1",
    # Other values.
    TEXT.split("\n"), (TEXT,), [TEXT], {TEXT: WEB}, WEB, SMALLEST, TEXT.upper(), TEXT + "\n", "\n" + TEXT, TEXT + "~",
    repr(WEB), TEXT.replace("\n", "\n\n"), TEXT.replace(" ", "  "), TEXT.replace("\n", "\t"), TEXT.replace("=", " = "),
]

WORD = "[a-z]{1,8}"
INTEGER = "(?:0|-?[1-9][0-9]{0,8})"
NUMBER = "(?:0|[1-9][0-9]?)"


def plainly_read(text):
    """Return the web of the text by a grammar of its own, or None."""
    if not re.fullmatch(f"{WORD}={NUMBER}( {WORD}={NUMBER}){{0,5}}(\n(open|frozen)( {WORD}=({INTEGER}|#{NUMBER})){{0,4}}){{1,30}}",
                        text):
        return None
    first, *lines = text.split("\n")
    names = re.findall(f"({WORD})=({NUMBER})", first)
    tables = [re.findall(f" ({WORD})=(#?)({INTEGER})", line) for line in lines]
    numbers = [int(number) for _, number in names] + [int(at) for fields in tables for _, sign, at in fields if sign]
    if max(numbers) >= len(lines) or not all(ascending(pairs) for pairs in [names] + tables):
        return None
    objects = []
    for line, fields in zip(lines, tables):
        pairs = [(word, (int(told),) if sign else int(told)) for word, sign, told in fields]
        objects.append((line.split()[0], tuple(pairs)))
    return tuple(objects), tuple([(word, int(number)) for word, number in names])


def ascending(rows):
    words = [row[0] for row in rows]
    return words == sorted(set(words))


def bent(text):
    """Yield texts that differ from this one at one place."""
    signs = " \n\t=#-+_019azA~"
    for at in range(len(text) + 1):
        for sign in signs:
            yield text[:at] + sign + text[at:]
            yield text[:at] + sign + text[at + 1:]
        yield text[:at] + text[at + 1:]
        yield text[:at] + text[at:at + 1] + text[at:]
        yield text[:at]
        yield text[at:]


def some_webs(many):
    chance = random.Random(31)
    yield from WEBS
    for web, _ in random_cases(many):
        yield web
    for _ in range(many):
        yield dense_web(chance, chance.choice([1, 3, 12, 30]), chance.choice(["a", "ab", "abcdef"]))


class Write(unittest.TestCase):
    def test_texts(self):
        for text, web in TEXTS:
            self.assertEqual(write(web), text)

    def test_numbers_of_two_digits(self):
        lines = write(largest()).split("\n")
        self.assertEqual(lines[0], "abcdefgh=29 b=0 c=1 d=1 e=28 zzzzzzzz=29")
        self.assertEqual(lines[1], "frozen abcdefgh=#29 m=-999999999 n=999999999 zzzzzzzz=#0")
        self.assertEqual(len(lines), 31)

    def test_objects_that_no_name_reaches(self):
        self.assertEqual(write(((("frozen", ()), ("open", ())), (("a", 1),))), "a=1\nfrozen\nopen")


class Read(unittest.TestCase):
    def test_texts(self):
        for text, web in TEXTS:
            self.assertEqual(read(text), web)
            self.assertTrue(is_web(read(text)))

    def test_kinds_of_the_parts(self):
        objects, names = read("a=0\nopen x=5 y=#0")
        self.assertEqual(list(map(type, [objects, names, names[0], objects[0], objects[0][1], objects[0][1][0]])), [tuple] * 6)
        self.assertIs(type(objects[0][1][0][1]), int)
        self.assertIs(type(objects[0][1][1][1]), tuple)

    def test_no_texts(self):
        for text in NO_TEXTS:
            with self.subTest(text), self.assertRaises(InvalidText):
                read(text)

    def test_number_of_objects(self):
        for many in [1, 2, 29, 30]:
            self.assertEqual(read(f"a={many - 1}" + "\nopen" * many), ((("open", ()),) * many, (("a", many - 1),)))
        for many in [0, 31, 60, 1000]:
            with self.assertRaises(InvalidText):
                read("a=0" + "\nopen" * many)

    def test_longest_text(self):
        words = ["zzzzzzz" + letter for letter in "abcdef"]
        fields = tuple([(word, -999999999) for word in words[:4]])
        web = ((("frozen", fields),) * 30, tuple([(word, 29) for word in words]))
        self.assertTrue(is_web(web))
        self.assertEqual(read(write(web)), web)

    def test_digits_beyond_ascii(self):
        for text in ["a=\u0660\nopen", "a=0\nopen x=\u0661", "a=0\nopen x=\u00b2", "a=0\nopen x=#\uff10", "\u00e4=0\nopen"]:
            with self.assertRaises(InvalidText):
                read(text)

    def test_bent_texts(self):
        seen = []
        texts = [text for text, _ in TEXTS] + [write(web) for web, _ in random_cases(12)]
        for text in texts:
            for other in bent(text):
                self.check(other)
                seen.append(plainly_read(other) is None)
        self.assertGreater(min(seen.count(True), seen.count(False)), 200)

    def test_lines_and_parts_in_other_orders(self):
        chance = random.Random(32)
        for web in some_webs(40):
            for mark in "\n", " ", "=":
                parts = write(web).split(mark)
                chance.shuffle(parts)
                self.check(mark.join(parts))
                self.check(mark.join(parts + parts[:1]))
                self.check(mark.join(parts[1:]))

    def check(self, text):
        expected = plainly_read(text)
        if expected is None:
            with self.subTest(text), self.assertRaises(InvalidText):
                read(text)
        else:
            self.assertEqual(read(text), expected)
            self.assertEqual(write(read(text)), text)


class BothWays(unittest.TestCase):
    def test_all_webs(self):
        for web in some_webs(100):
            text = write(web)
            with self.subTest(text):
                self.assertIs(type(text), str)
                self.assertEqual(plainly_read(text), web)
                self.assertEqual(read(text), web)
                self.assertEqual(write(read(text)), text)


class Arguments(unittest.TestCase):
    def test_invalid_webs(self):
        for web in NO_WEBS + [TEXT]:
            with self.subTest(web), self.assertRaises(InvalidWeb):
                write(web)

    def test_by_name(self):
        self.assertEqual(write(web=WEB), TEXT)
        self.assertEqual(read(text=TEXT), WEB)

    def test_arguments_stay_as_they_were(self):
        for web in WEBS:
            before = copy.deepcopy(web)
            write(web)
            self.assertEqual(web, before)
        value = [["a=0"], {"open": [1]}]
        before = copy.deepcopy(value)
        with self.assertRaises(InvalidText):
            read(value)
        self.assertEqual(value, before)

    def test_large_texts_take_less_than_a_second(self):
        many = 2000000
        for text in [write(largest()), "a" * many, "a=0" + "\nopen" * many, "a=0" + " b=0" * many, "9" * many,
                     "a=0\nopen x=" + "9" * many, "a=0\nopen" + " x=1" * many, "=" * many, "\n" * many, " " * many]:
            start = time.perf_counter()
            if len(text) < many:
                self.assertEqual(read(text), largest())
            else:
                with self.assertRaises(InvalidText):
                    read(text)
            self.assertLess(time.perf_counter() - start, 1)
