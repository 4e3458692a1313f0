"""Webs that look the same: their least look-alike, their matches, and scripts that tell webs apart."""

from openfrozen.errors import OtherNames
from openfrozen.forms import is_int, is_tuple, other_int, words_of
from openfrozen.webs import can_change, check_web, entry, first_paths, moved_fields, numbered_anew, references, ways


def check_webs(web, other):
    """Raise InvalidWeb for what is not a web, and OtherNames for webs with different names."""
    check_web(web)
    check_web(other)
    if words_of(web[1]) != words_of(other[1]):
        raise OtherNames("the webs have different names")


def signature(objects, number, heads):
    """Return what an object has in common with the objects that are alike, as far as the heads tell them apart."""
    item = objects[number]
    if can_change(item):
        return number, ()
    return item[0], moved_fields(item[1], heads)


def finer_heads(objects, heads):
    """Return new heads that also tell apart what leads to objects with different heads."""
    firsts = {}
    finer = []
    for number in range(len(objects)):
        finer.append(firsts.setdefault(signature(objects, number, heads), number))
    return finer


def alike_heads(objects):
    """Return for each object the lowest number of those that are alike."""
    # All are taken to be alike until something tells them apart: that also joins objects in rings.
    heads = [0] * len(objects)
    finer = finer_heads(objects, heads)
    while finer != heads:
        heads = finer
        finer = finer_heads(objects, heads)
    return heads


def merged(web):
    """Return the web in which alike objects are one, numbered anew; the web may have too many objects for one."""
    objects, names = web
    heads = alike_heads(objects)
    led = tuple([(kind, moved_fields(fields, heads)) for kind, fields in objects])
    return numbered_anew((led, tuple([(word, heads[number]) for word, number in names])))


def name_pairs(web, other):
    """Return the names, each with the pair of its objects."""
    return [(word, (number, entry(other[1], word))) for word, number in web[1]]


def next_pairs(web, other, pair):
    """Return the words of the fields that are references in both objects, each with the pair of their objects."""
    first, second = pair
    seconds = dict(references(other[0][second][1]))
    return [(word, (number, seconds[word])) for word, number in references(web[0][first][1]) if word in seconds]


def common_paths(web, other):
    """Return a dict of the pairs to which one path leads in both webs, as they are met, each with a shortest path."""
    pairs = [(first, second) for first in range(len(web[0])) for second in range(len(other[0]))]
    return first_paths(name_pairs(web, other), {pair: next_pairs(web, other, pair) for pair in pairs})


def shape(item):
    """Return the kind, the words and the values of an object, with all references alike."""
    kind, fields = item
    return kind, words_of(fields), [() if isinstance(pair[1], tuple) else pair[1] for pair in fields]


def agree(web, other, pair):
    """Return whether the two objects have the same kind, words and integers, and references at the same words."""
    first, second = pair
    return shape(web[0][first]) == shape(other[0][second])


def clash(web, pairs):
    """Return two pairs that have one changeable object in common, the later one as early as possible, or None.

    The objects of each pair have to agree. The earlier one of the two is the first pair that has the object.
    """
    firsts = {}
    seconds = {}
    for pair in pairs:
        if can_change(web[0][pair[0]]):
            first = firsts.setdefault(pair[0], pair)
            second = seconds.setdefault(pair[1], pair)
            if first != pair:
                return first, pair
            if second != pair:
                return second, pair
    return None


def fits(web, other, pairs):
    """Return whether the objects of each pair agree, and no changeable object is in two pairs."""
    return all([agree(web, other, pair) for pair in pairs]) and clash(web, pairs) is None


def is_closed(web, other, pairs):
    """Return whether the pairs of the names, and those to which the pairs lead, are among the pairs."""
    members = {pair: True for pair in pairs}
    wanted = name_pairs(web, other)
    for pair in pairs:
        wanted.extend(next_pairs(web, other, pair))
    return all([way[1] in members for way in wanted])


def is_pair_list(value, firsts, seconds):
    """Return whether the value is an ascending list of pairs of one of the firsts and one of the seconds."""
    if not isinstance(value, list):
        return False
    if not all([is_tuple(pair, 2, 2) and is_int(pair[0]) and is_int(pair[1]) for pair in value]):
        return False
    return value == sorted(set(value)) and all([first in firsts and second in seconds for first, second in value])


def telling_fields(item, other):
    """Return the fields, one or none, behind which a read tells two objects apart that do not agree."""
    kind, words, values = shape(item)
    other_kind, other_words, other_values = shape(other)
    if kind == other_kind and words == other_words:
        for word, value, other_value in zip(words, values, other_values):
            if value != other_value:
                return (word,)
    return ()


def set_and_read(web, paths, earlier, later):
    """Return the script that sets by the path of the later pair and reads by that of the earlier one."""
    # The earlier path is a shortest one to the object that both pairs have: it does not go through what is set, so in
    # that web the read finds the integer. In the other web it finds the old value or leads nowhere.
    word, value = web[0][earlier[0]][1][0]
    return [("set", paths[later] + (word,), other_int(value)), ("read", paths[earlier] + (word,))]


def least(web):
    """Return the web with the fewest objects that looks the same."""
    check_web(web)
    return merged(web)


def same(web, other):
    """Return whether the webs look the same."""
    check_webs(web, other)
    return fits(web, other, list(common_paths(web, other)))


def match(web, other):
    """Return the match of the webs with the fewest pairs, or None if they do not look the same."""
    check_webs(web, other)
    pairs = sorted(common_paths(web, other))
    return pairs if fits(web, other, pairs) else None


def is_match(web, other, value):
    """Return whether the value, any value, is a match of the webs."""
    check_webs(web, other)
    if not is_pair_list(value, ways(web[0], web[1]), ways(other[0], other[1])):
        return False
    return is_closed(web, other, value) and fits(web, other, value)


def difference(web, other):
    """Return a shortest script that has different answers in the webs, or None if they look the same."""
    check_webs(web, other)
    paths = common_paths(web, other)
    for pair in paths:
        if not agree(web, other, pair):
            fields = telling_fields(web[0][pair[0]], other[0][pair[1]])
            return [("read", paths[pair] + fields)]
    found = clash(web, list(paths))
    if found is None:
        return None
    earlier, later = found
    return set_and_read(web, paths, earlier, later)
