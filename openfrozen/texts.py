"""Webs as texts, and texts as webs."""

from openfrozen.errors import InvalidText
from openfrozen.forms import MOST_INT
from openfrozen.webs import check_web, is_web

# No text of a web has more signs: what is longer need not be looked at.
MOST_SIGNS = 3000


def text_of_pair(word, value):
    """Return the text of a field, or of a name with its number."""
    if isinstance(value, tuple):
        return word + "=#" + str(value[0])
    return word + "=" + str(value)


def text_of_pairs(pairs):
    """Return the list of the texts of the pairs."""
    return [text_of_pair(word, value) for word, value in pairs]


def text_of(web):
    """Return the text of the web."""
    objects, names = web
    lines = [" ".join(text_of_pairs(names))]
    lines.extend([" ".join([kind] + text_of_pairs(fields)) for kind, fields in objects])
    return "\n".join(lines)


def int_in(text):
    """Return the integer that the text tells, or None if it has other signs or too many."""
    digits = text.removeprefix("-")
    if not 1 <= len(digits) <= len(str(MOST_INT)):
        return None
    if not all(["0" <= sign <= "9" for sign in digits]):
        return None
    return int(text)


def pair_in(text):
    """Return a word and the integer or reference behind it, as far as the text tells them."""
    word, _, told = text.partition("=")
    if told.startswith("#"):
        return word, (int_in(told[1:]),)
    return word, int_in(told)


def pairs_in(texts):
    """Return the tuple of the pairs that the texts tell."""
    return tuple([pair_in(text) for text in texts])


def object_in(line):
    """Return an object as far as the line tells it."""
    parts = line.split(" ")
    return parts[0], pairs_in(parts[1:])


def write(web):
    """Return the text of the web."""
    check_web(web)
    return text_of(web)


def read(text):
    """Return the web of the text."""
    if not isinstance(text, str) or len(text) > MOST_SIGNS:
        raise InvalidText("not a text of a web")
    lines = text.split("\n")
    web = tuple([object_in(line) for line in lines[1:]]), pairs_in(lines[0].split(" "))
    # What is read tells too little where the text is not exact; a web has one text only.
    if not is_web(web) or text_of(web) != text:
        raise InvalidText("not a text of a web")
    return web
