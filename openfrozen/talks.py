"""Scripts that take back other scripts, and talks by which one name hears another."""

from openfrozen.errors import InvalidName
from openfrozen.forms import words_of
from openfrozen.least import merged
from openfrozen.scripts import step
from openfrozen.sharing import carried, check_names, common_changeable
from openfrozen.webs import check_script, check_web, entry, first_paths, follow, object_at, ways


def all_states(web, script):
    """Return the web, and the web after each statement of the script."""
    states = [web]
    for statement in script:
        states.append(step(states[-1], statement)[1])
    return states


def undoing(statement, before, after):
    """Return the statement that leads from the web after a set or a name statement to the web before it."""
    paths = ways(after[0], after[1])
    if statement[0] == "name":
        word = statement[1]
        return ("name", word, paths[entry(before[1], word)])
    path = statement[1]
    owner = object_at(before, path[:-1])
    old = follow(before, path)
    return ("set", paths[owner] + (path[-1],), paths[old[0]] if isinstance(old, tuple) else old)


def neighbours(web, name):
    """Return the names that share a changeable object with the name, each twice, as a word and where it leads."""
    return [(word, word) for word in words_of(web[1]) if common_changeable(web, name, word)]


def taken_back(web, script):
    """Return a script that leads from the web after the script to one that looks the same as the web, or None."""
    check_web(web)
    check_script(script)
    # In the least web each object has to be reachable again. No script makes an object reachable, so if none is lost
    # at the end, each one has a path after each statement, and the statements can be undone one by one.
    states = all_states(merged(web), script)
    objects, names = states[-1]
    if len(ways(objects, names)) < len(objects):
        return None
    back = [undoing(statement, before, after)
            for statement, before, after in zip(script, states, states[1:]) if before != after]
    return back[::-1]


def heard(web, name, other):
    """Return a plain talk with the fewest statements in which the other name hears the name, or None."""
    check_names(web, name, other)
    if name == other:
        raise InvalidName("a name does not hear itself")
    chains = first_paths([(name, name)], {word: neighbours(web, word) for word in words_of(web[1])})
    if other not in chains:
        return None
    return carried(web, chains[other])
