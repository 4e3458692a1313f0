"""Webs, values and a plain model of the document's words that several tests use."""

import random

# The web of the document's examples.
WEB = ((("open", (("x", 1), ("y", (1,)))), ("frozen", (("z", 7),)), ("frozen", (("z", 7),))),
       (("a", 0), ("b", 0), ("c", 2)))
SMALLEST = ((("open", ()),), (("a", 0),))
RING = ((("frozen", (("n", (1,)),)), ("open", (("n", (2,)), ("v", 3))), ("frozen", (("n", (0,)),))),
        (("a", 0), ("b", 1)))
SELF = ((("open", (("me", (0,)), ("v", -4))),), (("a", 0), ("b", 0)))
# Object 0 refers to what the names reach, but no name reaches it.
UNREACHED = ((("open", (("x", (2,)),)), ("frozen", ()), ("open", (("l", (1,)), ("r", (1,))))), (("p", 2),))

LETTERS = "abcdefghijklmnopqrstuvwxyz"
LONG = "abcdefgh"


def largest():
    """Return a web with every bound reached: objects, fields, names, letters and integers."""
    fields = ((LONG, (29,)), ("m", -999999999), ("n", 999999999), ("zzzzzzzz", (0,)))
    objects = tuple([("open" if at % 2 else "frozen", fields) for at in range(30)])
    return objects, ((LONG, 29), ("b", 0), ("c", 1), ("d", 1), ("e", 28), ("zzzzzzzz", 29))


WEBS = [WEB, SMALLEST, RING, SELF, UNREACHED, largest()]

DEEP = [[[[[[[[[[None]]]]]]]]]]

# Neither webs, nor paths, nor scripts, nor words, whatever they are tested for.
JUNK = [
    None, True, False, 0, 1, -1, 10 ** 30, "", "A", "aB", "a b", "a\n", "\t", "abcdefghi", "~", "a-b", "a1",
    (), ((),), ((), ()), (None,), (1,), ("",), ("A",), (("a",),), [None], ["a"], [()], [[]], {}, {"a": 0},
    {1: ("a",)}, DEEP, (DEEP,), (DEEP, DEEP),
]


def changed_in_kind(value):
    """Yield copies of a web, a path or a script with one part of another kind than it may be."""
    if isinstance(value, (tuple, list)):
        other = list if isinstance(value, tuple) else tuple
        yield other(value)
        yield dict(enumerate(value))
        yield value + type(value)([None])
        yield value + type(value)([False])
        for at, part in enumerate(value):
            for changed in changed_in_kind(part):
                yield value[:at] + type(value)([changed]) + value[at + 1:]
    else:
        wrong = [None, True, False, str(value).upper() + "1", str(value) + "\n", [value], {}, ((value,),)]
        yield from wrong


class Thing:
    """One object of the model; things are told apart by Python itself."""

    def __init__(self, kind):
        self.kind = kind
        self.fields = {}


class Model:
    """A web of Python's own references, which executes statements as the document tells them."""

    def __init__(self, web):
        self.things = [Thing(kind) for kind, _ in web[0]]
        for thing, (_, fields) in zip(self.things, web[0]):
            for word, value in fields:
                thing.fields[word] = self.things[value[0]] if isinstance(value, tuple) else value
        self.names = {word: self.things[number] for word, number in web[1]}

    def leads_to(self, path):
        value = self.names.get(path[0])
        for word in path[1:]:
            value = value.fields.get(word) if isinstance(value, Thing) else None
        return value

    def do(self, statement):
        if statement[0] == "read":
            value = self.leads_to(statement[1])
            if isinstance(value, Thing):
                return value.kind, tuple(sorted(value.fields))
            return "none" if value is None else value
        if statement[0] == "name":
            value = self.leads_to(statement[2])
            if statement[1] not in self.names or not isinstance(value, Thing):
                return "none"
            self.names[statement[1]] = value
            return "done"
        return self.do_set(statement[1], statement[2])

    def do_set(self, path, value):
        owner = self.leads_to(path[:-1])
        new = self.leads_to(value) if isinstance(value, tuple) else value
        if not isinstance(owner, Thing) or path[-1] not in owner.fields or new is None:
            return "none"
        if owner.kind == "frozen":
            return "refused"
        owner.fields[path[-1]] = new
        return "done"

    def web(self):
        objects = []
        for thing in self.things:
            fields = [(word, self.value_of(thing.fields[word])) for word in sorted(thing.fields)]
            objects.append((thing.kind, tuple(fields)))
        return tuple(objects), tuple([(word, self.things.index(self.names[word])) for word in sorted(self.names)])

    def value_of(self, value):
        return (self.things.index(value),) if isinstance(value, Thing) else value


def random_web(chance):
    """Return a web with few words, so that paths often lead somewhere."""
    many = chance.randint(1, 7)
    objects = []
    for _ in range(many):
        words = sorted(chance.sample("fghi", chance.randint(0, 3)))
        fields = [(word, random_value(chance, many)) for word in words]
        objects.append((chance.choice(["open", "open", "frozen"]), tuple(fields)))
    names = sorted(chance.sample("abc", chance.randint(1, 3)))
    return tuple(objects), tuple([(word, chance.randrange(many)) for word in names])


def random_value(chance, many):
    return chance.randint(-9, 9) if chance.random() < 0.3 else (chance.randrange(many),)


def random_path(chance, least=1):
    fields = [chance.choice("fghi") for _ in range(chance.choice([0, 1, 1, 2, 2, 3, 5]))]
    return tuple([chance.choice("abc")] + fields + ["f"] * (least - 1 - len(fields)))


def random_statement(chance):
    action = chance.choice(["read", "set", "set", "name"])
    if action == "read":
        return ("read", random_path(chance))
    if action == "name":
        return ("name", chance.choice("abc"), random_path(chance))
    return ("set", random_path(chance, 2), chance.choice([chance.randint(-9, 9), random_path(chance)]))


def random_cases(many):
    """Yield webs with scripts, the same ones in every run."""
    chance = random.Random(5)
    for _ in range(many):
        yield random_web(chance), [random_statement(chance) for _ in range(chance.randint(0, 60))]
