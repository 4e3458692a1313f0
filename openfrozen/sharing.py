"""Names that are independent of one another, and names that share objects that can be changed."""

from openfrozen.forms import other_int
from openfrozen.least import merged
from openfrozen.webs import can_change, check_name, check_size, check_web, entry, moved_fields, ways_from


def check_names(web, name, other):
    """Raise InvalidWeb for what is not a web, and InvalidName for what is not one of its names."""
    check_web(web)
    check_name(web, name)
    check_name(web, other)


def common_changeable(web, name, other):
    """Return the ascending list of the changeable objects that are reachable from both names."""
    others = ways_from(web, other)
    return [number for number in sorted(ways_from(web, name)) if number in others and can_change(web[0][number])]


def common_field(web, name, other):
    """Return the number and the first field of a changeable object that is reachable from both names."""
    number = common_changeable(web, name, other)[0]
    return number, web[0][number][1][0][0]


def field_path(web, name, field):
    """Return a shortest path from the name to the field, which is given by the number of its object and its word."""
    number, word = field
    return ways_from(web, name)[number] + (word,)


def carried(web, chain):
    """Return the sets by which an integer goes from name to name of the chain, and a read of it by the last one.

    The chain has to be a shortest one from its first name to its last. Then no path of a later statement goes through
    a field that was set before, except at its end: otherwise the chain could leave out a name.
    """
    number, word = common_field(web, chain[0], chain[1])
    value = other_int(entry(web[0][number][1], word))
    script = []
    for name, following in zip(chain, chain[1:]):
        field = common_field(web, name, following)
        script.append(("set", field_path(web, name, field), value))
        value = field_path(web, following, field)
    script.append(("read", value))
    return script


def apart(web, name):
    """Return the web twice: the name stands for its object in the first one, all other names in the second.

    It may have too many objects for a web.
    """
    objects, names = web
    many = len(objects)
    places = list(range(many, many + many))
    twins = tuple([(kind, moved_fields(fields, places)) for kind, fields in objects])
    return objects + twins, tuple([(word, number if word == name else places[number]) for word, number in names])


def shared(web, name, other):
    """Return the ascending list of the numbers of the changeable objects that are reachable from both names."""
    check_names(web, name, other)
    return common_changeable(web, name, other)


def independent(web, name, other):
    """Return whether no script of sets that uses one name changes what a read by the other one answers."""
    check_names(web, name, other)
    return not common_changeable(web, name, other)


def witness(web, name, other):
    """Return a set by the name that changes the answer of a read by the other one, and that read, or None."""
    check_names(web, name, other)
    if not common_changeable(web, name, other):
        return None
    return carried(web, [name, other])


def separated(web, name):
    """Return the least web that looks the same by the name and by the others, with the name independent of them."""
    check_web(web)
    check_name(web, name)
    result = merged(apart(web, name))
    check_size(result[0])
    return result
