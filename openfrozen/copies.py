"""Copies of objects, objects that become frozen, and new versions of frozen structures."""

from openfrozen.errors import InvalidPath, InvalidValue, NoObject, NotFrozen
from openfrozen.forms import is_int
from openfrozen.scripts import meant, replaced, with_field
from openfrozen.webs import can_change, check_name, check_path, check_size, check_web, follow, is_path, moved_fields
from openfrozen.webs import object_at, ways


def check_place(web, name, path):
    """Raise InvalidWeb, InvalidName or InvalidPath for the first argument that does not have its form."""
    check_web(web)
    check_name(web, name)
    check_path(path)


def check_field_path(path):
    """Raise InvalidPath for a path that has no field."""
    if len(path) < 2:
        raise InvalidPath("the path has no field")


def check_value(value):
    """Raise InvalidValue for what is neither an integer nor a path."""
    if not is_int(value) and not is_path(value):
        raise InvalidValue("neither an integer nor a path")


def required_object(web, path):
    """Return the number of the object that the path leads to, or raise NoObject."""
    number = object_at(web, path)
    if number is None:
        raise NoObject(path)
    return number


def met_from(objects, number):
    """Return the list of the objects that are reachable from the object, as they are met, breadth-first."""
    return list(ways(objects, [("", number)]))


def is_pure(objects, number):
    """Return whether no changeable object is reachable from the object."""
    return not any([can_change(objects[other]) for other in met_from(objects, number)])


def frozen_item(item):
    """Return the object as it is when it is frozen: only what can be changed becomes another one."""
    return ("frozen", item[1]) if can_change(item) else item


def extended(web, new, name, number):
    """Return the web with the new objects behind its own, in which the name stands for the number."""
    objects = web[0] + tuple(new)
    check_size(objects)
    return objects, replaced(web[1], name, number)


def check_version(web, path, value):
    """Raise an error if the path does not go through frozen objects to a field, or the value leads nowhere."""
    if follow(web, path) is None:
        raise NoObject(path[:-1])
    if meant(web, value) is None:
        raise NoObject(value)
    for at in range(1, len(path)):
        if web[0][object_at(web, path[:at])][0] == "open":
            raise NotFrozen(path[:at])


def copied(web, name, path):
    """Return the web in which the name stands for a new object with the kind and fields of that at the path."""
    check_place(web, name, path)
    number = required_object(web, path)
    return extended(web, [web[0][number]], name, len(web[0]))


def deep_copied(web, name, path):
    """Return the web in which the name stands for a copy of the object at the path and of all behind it.

    Pure objects are not copied: no script can tell them from copies.
    """
    check_place(web, name, path)
    number = required_object(web, path)
    objects = web[0]
    places = list(range(len(objects)))
    copies = [other for other in met_from(objects, number) if not is_pure(objects, other)]
    for at, other in enumerate(copies):
        places[other] = len(objects) + at
    new = [(objects[other][0], moved_fields(objects[other][1], places)) for other in copies]
    return extended(web, new, name, places[number])


def frozen(web, path):
    """Return the web in which all changeable objects that are reachable from the object at the path are frozen."""
    check_web(web)
    check_path(path)
    objects, names = web
    met = met_from(objects, required_object(web, path))
    return tuple([frozen_item(item) if at in met else item for at, item in enumerate(objects)]), names


def version(web, name, path, value):
    """Return the web in which the name stands for a new version of the object of the path's name.

    In it the path leads to the value, an integer or what a path leads to in the given web.
    """
    check_place(web, name, path)
    check_field_path(path)
    check_value(value)
    check_version(web, path, value)
    objects = web[0]
    many = len(objects)
    owners = [object_at(web, path[:at]) for at in range(1, len(path))]
    # Each new object leads to the next one, also where the path meets one object several times.
    values = [(many + at,) for at in range(1, len(owners))] + [meant(web, value)]
    new = [with_field(objects[owner], word, led) for owner, word, led in zip(owners, path[1:], values)]
    return extended(web, new, name, many)
