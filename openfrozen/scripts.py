"""Scripts: statements that read and change a web, executed one after another."""

from openfrozen.forms import is_int
from openfrozen.webs import answer_at, check_script, check_web, entry, follow, object_at


def replaced(pairs, word, value):
    """Return the pairs with the value beside the word."""
    return tuple([(key, value if key == word else old) for key, old in pairs])


def with_field(item, word, value):
    """Return the object with the value in the field."""
    kind, fields = item
    return kind, replaced(fields, word, value)


def meant(web, value):
    """Return the integer, or the integer or reference that the path leads to, or None."""
    return value if is_int(value) else follow(web, value)


def set_field(web, path, value):
    """Return the answer of a set and the web after it."""
    objects, names = web
    new = meant(web, value)
    # A path leads nowhere just if its last object or the field of it is missing.
    if follow(web, path) is None or new is None:
        return "none", web
    number = object_at(web, path[:-1])
    if objects[number][0] == "frozen":
        return "refused", web
    changed = with_field(objects[number], path[-1], new)
    return "done", (objects[:number] + (changed,) + objects[number + 1:], names)


def set_name(web, word, path):
    """Return the answer of a name statement and the web after it."""
    objects, names = web
    number = object_at(web, path)
    if entry(names, word) is None or number is None:
        return "none", web
    return "done", (objects, replaced(names, word, number))


def step(web, statement):
    """Return the answer of one statement and the web after it."""
    if statement[0] == "read":
        return answer_at(web, statement[1]), web
    if statement[0] == "set":
        return set_field(web, statement[1], statement[2])
    return set_name(web, statement[1], statement[2])


def run(web, script):
    """Return the list of the answers of the script and the web after it."""
    check_web(web)
    check_script(script)
    answers = []
    after = web
    for statement in script:
        answer, after = step(after, statement)
        answers.append(answer)
    return answers, after
