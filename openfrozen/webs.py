"""Webs of objects: their form, the paths through them, and what can be reached in them."""

from openfrozen.errors import InvalidName, InvalidPath, InvalidScript, InvalidStatement, InvalidWeb, TooLarge
from openfrozen.forms import MOST_OBJECTS, MOST_STATEMENTS, MOST_WORDS
from openfrozen.forms import is_int, is_names, is_object, is_tuple, is_word, words_of


def is_web(value):
    """Return whether the value, any value, is a web."""
    if not is_tuple(value, 2, 2) or not is_tuple(value[0], 1, MOST_OBJECTS):
        return False
    objects, names = value
    many = len(objects)
    return is_names(names, many) and all([is_object(item, many) for item in objects])


def is_path(value):
    """Return whether the value, any value, is a path."""
    return is_tuple(value, 1, MOST_WORDS) and all([is_word(word) for word in value])


def is_statement(value):
    """Return whether the value, any value, is a statement."""
    if is_tuple(value, 2, 2):
        return value[0] == "read" and is_path(value[1])
    if not is_tuple(value, 3, 3):
        return False
    action, second, third = value
    if action == "set":
        return is_path(second) and len(second) >= 2 and (is_int(third) or is_path(third))
    return action == "name" and is_word(second) and is_path(third)


def is_script(value):
    """Return whether the value, any value, is a script."""
    if not isinstance(value, list) or len(value) > MOST_STATEMENTS:
        return False
    return all([is_statement(statement) for statement in value])


def check_web(web):
    """Raise InvalidWeb for what is not a web."""
    if not is_web(web):
        raise InvalidWeb("not a web")


def check_path(path):
    """Raise InvalidPath for what is not a path."""
    if not is_path(path):
        raise InvalidPath("not a path")


def check_statement(statement):
    """Raise InvalidStatement for what is not a statement."""
    if not is_statement(statement):
        raise InvalidStatement("not a statement")


def check_script(script):
    """Raise InvalidScript for what is not a script."""
    if not is_script(script):
        raise InvalidScript("not a script")


def check_name(web, name):
    """Raise InvalidName for what is not one of the names of the web."""
    if entry(web[1], name) is None:
        raise InvalidName("not a name of the web")


def check_size(objects):
    """Raise TooLarge for more objects than a web can have."""
    if len(objects) > MOST_OBJECTS:
        raise TooLarge("the result would have too many objects")


def entry(pairs, word):
    """Return what stands beside the word in the pairs, or None."""
    for key, value in pairs:
        if key == word:
            return value
    return None


def follow(web, path):
    """Return the integer or the reference that the path leads to, or None."""
    objects, names = web
    number = entry(names, path[0])
    value = None if number is None else (number,)
    for word in path[1:]:
        if not isinstance(value, tuple):
            return None
        value = entry(objects[value[0]][1], word)
    return value


def object_at(web, path):
    """Return the number of the object that the path leads to, or None."""
    value = follow(web, path)
    return value[0] if isinstance(value, tuple) else None


def answer_at(web, path):
    """Return the answer of a read of the path."""
    value = follow(web, path)
    if value is None:
        return "none"
    if not isinstance(value, tuple):
        return value
    kind, fields = web[0][value[0]]
    return kind, tuple(words_of(fields))


def can_change(item):
    """Return whether the object is changeable."""
    kind, fields = item
    return kind == "open" and len(fields) > 0


def references(fields):
    """Return the words of the fields that are references, each with the number, in the order of the fields."""
    return [(word, value[0]) for word, value in fields if isinstance(value, tuple)]


def first_paths(starts, steps):
    """Return a dict of all that the starts lead to, in the order in which it is met, breadth-first.

    Each key has the path by which it is met first, a shortest one. The starts, and what steps holds for each key, are
    lists of a word and the key to which it leads.
    """
    # The steps are a table and no function: what an operator of a class calls must not call what it is passed.
    paths = {}
    for word, key in starts:
        paths.setdefault(key, (word,))
    order = list(paths)
    at = 0
    while at < len(order):
        here = order[at]
        for word, key in steps[here]:
            if key not in paths:
                paths[key] = paths[here] + (word,)
                order.append(key)
        at += 1
    return paths


def ways(objects, names):
    """Return a dict of the objects that the names lead to, as they are met, with a shortest path to each."""
    return first_paths(names, [references(item[1]) for item in objects])


def ways_from(web, name):
    """Return a dict of the objects that are reachable from the name, with a shortest path to each."""
    objects, names = web
    return ways(objects, [(name, entry(names, name))])


def moved_fields(fields, places):
    """Return the fields with each reference led to the new number of its object."""
    return tuple([(word, (places[value[0]],) if isinstance(value, tuple) else value) for word, value in fields])


def renumbered(web, order):
    """Return the web of the objects in the order, which take its places as their numbers."""
    objects, names = web
    places = {number: at for at, number in enumerate(order)}
    kept = [(objects[number][0], moved_fields(objects[number][1], places)) for number in order]
    return tuple(kept), tuple([(word, places[number]) for word, number in names])


def numbered_anew(web):
    """Return the web of the objects that its names lead to, in the order in which they are met."""
    objects, names = web
    return renumbered(web, list(ways(objects, names)))


def look(web, path):
    """Return the answer of a read of the path: an integer, a kind with fields, or "none"."""
    check_web(web)
    check_path(path)
    return answer_at(web, path)


def place(web, path):
    """Return the number of the object that the path leads to, or None."""
    check_web(web)
    check_path(path)
    return object_at(web, path)


def reachable(web, name):
    """Return the ascending list of the numbers of the objects reachable from the name."""
    check_web(web)
    check_name(web, name)
    return sorted(ways_from(web, name))


def trimmed(web):
    """Return the web of the objects that are reachable from its names, numbered anew."""
    check_web(web)
    return numbered_anew(web)
