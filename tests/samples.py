"""Webs, values and a plain model of the document's words that several tests use."""

import itertools
import random

# The web of the document's examples.
WEB = ((("open", (("x", 1), ("y", (1,)))), ("frozen", (("z", 7),)), ("frozen", (("z", 7),))),
       (("a", 0), ("b", 0), ("c", 2)))
SMALLEST = ((("open", ()),), (("a", 0),))
RING = ((("frozen", (("n", (1,)),)), ("open", (("n", (2,)), ("v", 3))), ("frozen", (("n", (0,)),))),
        (("a", 0), ("b", 1)))
SELF = ((("open", (("me", (0,)), ("v", -4))),), (("a", 0), ("b", 0)))
# Object 0 refers to what the names reach, but no name reaches it.
UNREACHED = ((("open", (("x", (2,)),)), ("frozen", ()), ("open", (("l", (1,)), ("r", (1,))))), (("p", 2),))

LETTERS = "abcdefghijklmnopqrstuvwxyz"
LONG = "abcdefgh"


def largest():
    """Return a web with every bound reached: objects, fields, names, letters and integers."""
    fields = ((LONG, (29,)), ("m", -999999999), ("n", 999999999), ("zzzzzzzz", (0,)))
    objects = tuple([("open" if at % 2 else "frozen", fields) for at in range(30)])
    return objects, ((LONG, 29), ("b", 0), ("c", 1), ("d", 1), ("e", 28), ("zzzzzzzz", 29))


WEBS = [WEB, SMALLEST, RING, SELF, UNREACHED, largest()]

DEEP = [[[[[[[[[[None]]]]]]]]]]

# Neither webs, nor paths, nor scripts, nor words, whatever they are tested for.
JUNK = [
    None, True, False, 0, 1, -1, 10 ** 30, "", "A", "aB", "a b", "a\n", "\t", "abcdefghi", "~", "a-b", "a1",
    (), ((),), ((), ()), (None,), (1,), ("",), ("A",), (("a",),), [None], ["a"], [()], [[]], {}, {"a": 0},
    {1: ("a",)}, DEEP, (DEEP,), (DEEP, DEEP),
]

NO_WEBS = JUNK + [list(WEB), (list(WEB[0]), WEB[1]), (WEB[0], ()), (WEB[0], (("a", 3),)), (WEB[0], (("a", True),))]
# No names of WEB.
NO_NAMES = JUNK + ["d", "aa", "x", ("a",), ["a"], "a "]
NO_PATHS = JUNK + ["a", ["a"], ("a",) * 65, ("a", 1), ("a", True), ("a", "X")]
NO_STATEMENTS = JUNK + [
    [], ["read", ("a",)], ("read", "a"), ("read", ("a",), 1), ("set", ("a",), 5), ("set", ("a", "x"), True),
    ("set", ("a", "x"), None), ("set", ("a", "x"), "b"), ("name", "A", ("a",)), ("name", ("a",), ("a",)),
    [("read", ("a",))], ("undo",), ("set", ("a",) * 65, 1), ("set", ("a", "x"), 10 ** 9), {"read": ("a",)},
]
NO_SCRIPTS = [value for value in JUNK if value != []] + [
    (), (("read", ("a",)),), ("read", ("a",)), [("read", "a")], [("set", ("a",), 1)], [["read", ("a",)]],
    [("read", ("a",))] * 61, [("set", ("a", "x"), True)], [("name", "A", ("a",))],
]


def changed_in_kind(value):
    """Yield copies of a web, a path or a script with one part of another kind than it may be."""
    if isinstance(value, (tuple, list)):
        other = list if isinstance(value, tuple) else tuple
        yield other(value)
        yield dict(enumerate(value))
        yield value + type(value)([None])
        yield value + type(value)([False])
        for at, part in enumerate(value):
            for changed in changed_in_kind(part):
                yield value[:at] + type(value)([changed]) + value[at + 1:]
    else:
        wrong = [None, True, False, str(value).upper() + "1", str(value) + "\n", [value], {}, ((value,),)]
        yield from wrong


class Thing:
    """One object of the model; things are told apart by Python itself."""

    def __init__(self, kind):
        self.kind = kind
        self.fields = {}


class Model:
    """A web of Python's own references, which executes statements as the document tells them."""

    def __init__(self, web):
        self.things = [Thing(kind) for kind, _ in web[0]]
        for thing, (_, fields) in zip(self.things, web[0]):
            for word, value in fields:
                thing.fields[word] = self.things[value[0]] if isinstance(value, tuple) else value
        self.names = {word: self.things[number] for word, number in web[1]}

    def leads_to(self, path):
        value = self.names.get(path[0])
        for word in path[1:]:
            value = value.fields.get(word) if isinstance(value, Thing) else None
        return value

    def do(self, statement):
        if statement[0] == "read":
            value = self.leads_to(statement[1])
            if isinstance(value, Thing):
                return value.kind, tuple(sorted(value.fields))
            return "none" if value is None else value
        if statement[0] == "name":
            value = self.leads_to(statement[2])
            if statement[1] not in self.names or not isinstance(value, Thing):
                return "none"
            self.names[statement[1]] = value
            return "done"
        return self.do_set(statement[1], statement[2])

    def do_set(self, path, value):
        owner = self.leads_to(path[:-1])
        new = self.leads_to(value) if isinstance(value, tuple) else value
        if not isinstance(owner, Thing) or path[-1] not in owner.fields or new is None:
            return "none"
        if owner.kind == "frozen":
            return "refused"
        owner.fields[path[-1]] = new
        return "done"

    def web(self):
        objects = []
        for thing in self.things:
            fields = [(word, self.value_of(thing.fields[word])) for word in sorted(thing.fields)]
            objects.append((thing.kind, tuple(fields)))
        return tuple(objects), tuple([(word, self.things.index(self.names[word])) for word in sorted(self.names)])

    def value_of(self, value):
        return (self.things.index(value),) if isinstance(value, Thing) else value


def random_web(chance):
    """Return a web with few words, so that paths often lead somewhere."""
    many = chance.randint(1, 7)
    objects = []
    for _ in range(many):
        words = sorted(chance.sample("fghi", chance.randint(0, 3)))
        fields = [(word, random_value(chance, many)) for word in words]
        objects.append((chance.choice(["open", "open", "frozen"]), tuple(fields)))
    names = sorted(chance.sample("abc", chance.randint(1, 3)))
    return tuple(objects), tuple([(word, chance.randrange(many)) for word in names])


def random_value(chance, many):
    return chance.randint(-9, 9) if chance.random() < 0.3 else (chance.randrange(many),)


def random_path(chance, least=1):
    fields = [chance.choice("fghi") for _ in range(chance.choice([0, 1, 1, 2, 2, 3, 5]))]
    return tuple([chance.choice("abc")] + fields + ["f"] * (least - 1 - len(fields)))


def random_statement(chance):
    action = chance.choice(["read", "set", "set", "name"])
    if action == "read":
        return ("read", random_path(chance))
    if action == "name":
        return ("name", chance.choice("abc"), random_path(chance))
    return ("set", random_path(chance, 2), chance.choice([chance.randint(-9, 9), random_path(chance)]))


def random_cases(many):
    """Yield webs with scripts, the same ones in every run."""
    chance = random.Random(5)
    for _ in range(many):
        yield random_web(chance), [random_statement(chance) for _ in range(chance.randint(0, 60))]


def row(many, first="frozen", last=None, kind="frozen"):
    """Return objects, each of which leads to the next one by n: the last one to the first, or it holds the last."""
    objects = [(kind, (("n", (at + 1,)),)) for at in range(many)]
    objects[0] = (first, objects[0][1])
    objects[-1] = (objects[-1][0], (("n", (0,) if last is None else last),))
    return tuple(objects)


def names_of(web):
    return [word for word, _ in web[1]]


def only(web, names):
    """Return the web with some of its names."""
    return web[0], tuple([(word, number) for word, number in web[1] if word in names])


def leading_paths(web, most):
    """Return all paths of at most so many words that lead somewhere, shorter ones first, then in ascending order."""
    words = {word for _, fields in web[0] for word, _ in fields}
    model = Model(web)
    found = [path for path in all_paths(names_of(web), words, most) if model.leads_to(path) is not None]
    return sorted(found, key=lambda path: (len(path), path))


def changeable(item):
    return item[0] == "open" and item[1] != ()


def met(objects, numbers):
    """Return the set of the numbers and of all that they lead to."""
    found = set(numbers)
    while True:
        more = {value[0] for number in found for _, value in objects[number][1] if isinstance(value, tuple)} - found
        if not more:
            return found
        found |= more


def met_by(web, word):
    return met(web[0], [dict(web[1])[word]])


def met_by_all(web):
    return met(web[0], dict(web[1]).values())


def one_path_pairs(one, two):
    """Return the set of the pairs of objects to which one path leads in both webs."""
    waiting = [(number, dict(two[1])[word]) for word, number in one[1]]
    found = set()
    while waiting:
        pair = waiting.pop()
        if pair not in found:
            found.add(pair)
            others = dict(two[0][pair[1]][1])
            waiting += [(value[0], others[word][0]) for word, value in one[0][pair[0]][1]
                        if isinstance(value, tuple) and isinstance(others.get(word), tuple)]
    return found


def is_plain_match(one, two, value):
    """Return whether the list of pairs is a match, word by word as point 7 has it."""
    if value != sorted(value) or len(value) != len(set(value)):
        return False
    if not all(first in met_by_all(one) and second in met_by_all(two) for first, second in value):
        return False
    if not all((number, dict(two[1])[word]) in value for word, number in one[1]):
        return False
    if not all(pair_fits(one[0][first], two[0][second], value) for first, second in value):
        return False
    firsts, seconds = [first for first, _ in value], [second for _, second in value]
    return (all(firsts.count(number) == 1 for number in met_by_all(one) if changeable(one[0][number]))
            and all(seconds.count(number) == 1 for number in met_by_all(two) if changeable(two[0][number])))


def pair_fits(first, second, pairs):
    if first[0] != second[0] or [word for word, _ in first[1]] != [word for word, _ in second[1]]:
        return False
    for (_, value), (_, other) in zip(first[1], second[1]):
        if isinstance(value, tuple) and isinstance(other, tuple):
            if (value[0], other[0]) not in pairs:
                return False
        elif value != other:
            return False
    return True


def unlike_pairs(web):
    """Return the set of the pairs of objects that are not alike, found as point 12 tells: by what paths lead to."""
    objects = web[0]
    numbers = range(len(objects))
    everything = [(first, second) for first in numbers for second in numbers]
    found = {pair for pair in everything if pair[0] != pair[1] and at_once_unlike(objects, pair)}
    while True:
        more = {pair for pair in everything if pair not in found and leads_into(objects, pair, found)}
        if not more:
            return found
        found |= more


def at_once_unlike(objects, pair):
    first, second = objects[pair[0]], objects[pair[1]]
    if changeable(first) or changeable(second):
        return True
    return plain(first) != plain(second)


def plain(item):
    """Return what reads of the object and its fields tell, but for what its references lead to."""
    return item[0], [(word, "object" if isinstance(value, tuple) else value) for word, value in item[1]]


def same_reads(one, two):
    """Return whether every single read has the same answer in both webs."""
    return all(plain(one[0][first]) == plain(two[0][second]) for first, second in one_path_pairs(one, two))


def leads_into(objects, pair, found):
    if pair[0] == pair[1]:
        return False
    steps = zip(objects[pair[0]][1], objects[pair[1]][1])
    return any((value[0], other[0]) in found for (_, value), (_, other) in steps if isinstance(value, tuple))


def least_size(web):
    """Return how many objects the web has that are not alike, of those that its names reach."""
    unlike = unlike_pairs(web)
    kept = []
    for number in sorted(met_by_all(web)):
        if all((number, other) in unlike for other in kept):
            kept.append(number)
    return len(kept)


def pure_numbers(web):
    return [number for number in range(len(web[0]))
            if not any(changeable(web[0][other]) for other in met(web[0], [number]))]


def dense_web(chance, many=None, names="abc"):
    """Return a web with so few kinds of objects that many of them are alike."""
    many = many or chance.randint(1, 8)
    words = chance.choice(["n", "n", "lr"])
    still = chance.choice([0.3, 0.6, 0.9, 1])
    objects = []
    for _ in range(many):
        kind = "frozen" if chance.random() < still else "open"
        fields = tuple([(word, chance.choice([0, 1, (chance.randrange(many),), (chance.randrange(many),)]))
                        for word in words])
        objects.append((kind, fields if chance.random() < 0.9 else ()))
    return tuple(objects), tuple([(word, chance.randrange(many)) for word in names])


def shuffled(chance, web):
    """Return the web with other numbers for its objects."""
    order = list(range(len(web[0])))
    chance.shuffle(order)
    return numbered(web, order)


def numbered(web, order):
    """Return the web in which the object of each number of the order has the place of it as its number."""
    places = {number: at for at, number in enumerate(order)}
    objects = []
    for number in order:
        kind, fields = web[0][number]
        objects.append((kind, tuple([(word, (places[value[0]],) if isinstance(value, tuple) else value)
                                     for word, value in fields])))
    return tuple(objects), tuple([(word, places[number]) for word, number in web[1]])


def split(chance, web, twins):
    """Return the web with twins of some objects, the references divided among them, and with other numbers."""
    sources = list(range(len(web[0]))) + list(twins)
    places = {number: [at for at, source in enumerate(sources) if source == number] for number in sources}
    objects = []
    for source in sources:
        kind, fields = web[0][source]
        objects.append((kind, tuple([(word, (chance.choice(places[value[0]]),) if isinstance(value, tuple) else value)
                                     for word, value in fields])))
    names = tuple([(word, chance.choice(places[number])) for word, number in web[1]])
    return shuffled(chance, (tuple(objects), names))


def still_split(chance, web):
    """Return the web with twins of objects that are not changeable; it looks the same."""
    still = [number for number, item in enumerate(web[0]) if not changeable(item)]
    room = min(6, 30 - len(web[0]))
    twins = [chance.choice(still) for _ in range(chance.randint(1, room))] if still and room else []
    return split(chance, web, twins)


def tiny_webs(names):
    """Return all webs of at most two objects with the names, at most the field n, and the integers 0 and 1 in it."""
    found = []
    for many in (1, 2):
        values = [0, 1] + [(number,) for number in range(many)]
        kinds = [(kind, fields) for kind in ("open", "frozen") for fields in [()] + [(("n", value),) for value in values]]
        for objects in itertools.product(kinds, repeat=many):
            for numbers in itertools.product(range(many), repeat=len(names)):
                found.append((objects, tuple(zip(names, numbers))))
    return found


def all_paths(names, fields, most):
    """Return all paths of at most so many words."""
    return [(name,) + rest for many in range(most) for name in names
            for rest in itertools.product(fields, repeat=many)]


def all_answers(web, names):
    """Return what the scripts of one or two statements answer in a tiny web that use these names only."""
    paths = all_paths(names, "n", 5)
    reads = [("read", path) for path in paths]
    sets = [("set", path, value) for path in paths[len(names):] for value in [0, 1, 7] + paths]
    answers = []
    for first in [reads[0]] + sets:
        model = Model(web)
        answers.append([model.do(statement) for statement in [first] + reads])
    return answers
