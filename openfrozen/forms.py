"""What the parts of webs and scripts look like: words, integers, pairs and objects."""

KINDS = ("open", "frozen")
LEAST_INT = -999999999
MOST_INT = 999999999
MOST_LETTERS = 8
MOST_FIELDS = 4
MOST_NAMES = 6
MOST_OBJECTS = 30
MOST_STATEMENTS = 60
MOST_WORDS = 64


def is_int(value):
    """Return whether the value is an integer within the bounds, True and False not among them."""
    return isinstance(value, int) and not isinstance(value, bool) and LEAST_INT <= value <= MOST_INT


def other_int(value):
    """Return an integer that is not the value."""
    return 1 if value == 0 else 0


def is_word(value):
    """Return whether the value is a string of 1 to 8 letters from a to z."""
    if not isinstance(value, str) or not 1 <= len(value) <= MOST_LETTERS:
        return False
    return all(["a" <= sign <= "z" for sign in value])


def words_of(pairs):
    """Return the list of the words of the pairs."""
    return [pair[0] for pair in pairs]


def is_tuple(value, least, most):
    """Return whether the value is a tuple with at least and at most so many entries."""
    return isinstance(value, tuple) and least <= len(value) <= most


def is_number(value, many):
    """Return whether the value is the number of one of so many objects."""
    return is_int(value) and 0 <= value < many


def is_field_value(value, many):
    """Return whether the value is an integer, or a reference to one of so many objects."""
    return is_int(value) or (is_tuple(value, 1, 1) and is_number(value[0], many))


def is_table(value, least, most):
    """Return whether the value is a tuple of pairs whose words are strictly ascending."""
    if not is_tuple(value, least, most):
        return False
    if not all([is_tuple(pair, 2, 2) and is_word(pair[0]) for pair in value]):
        return False
    words = words_of(value)
    return words == sorted(set(words))


def is_object(value, many):
    """Return whether the value is an object of a web that has so many objects."""
    if not is_tuple(value, 2, 2) or value[0] not in KINDS:
        return False
    fields = value[1]
    return is_table(fields, 0, MOST_FIELDS) and all([is_field_value(pair[1], many) for pair in fields])


def is_names(value, many):
    """Return whether the value is the names of a web that has so many objects."""
    return is_table(value, 1, MOST_NAMES) and all([is_number(pair[1], many) for pair in value])
