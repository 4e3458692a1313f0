"""Runners: webs on which statements are executed one after another, and taken back."""

from openfrozen.errors import InvalidNumber, NothingToUndo
from openfrozen.forms import is_int, words_of
from openfrozen.least import same
from openfrozen.scripts import step
from openfrozen.texts import read
from openfrozen.webs import answer_at, check_path, check_script, check_statement, check_web, follow, is_path, ways

MOST_LENGTH = 6


def check_length(length):
    """Raise InvalidNumber for what is not an integer from 1 to 6."""
    if not is_int(length) or not 1 <= length <= MOST_LENGTH:
        raise InvalidNumber("not an integer from 1 to 6")


def fields_behind(objects, value):
    """Return the fields that a path can go on to from the value: none from an integer."""
    return objects[value[0]][1] if isinstance(value, tuple) else ()


class Runner:
    """A web on which statements are executed."""

    MOST = 30

    def __init__(self, web):
        check_web(web)
        self._web = web
        # The webs before the statements that are done and not undone.
        self._past = []

    @classmethod
    def of_text(cls, text):
        """Return a runner with the web of the text."""
        return cls(read(text))

    @property
    def web(self):
        """The present web."""
        return self._web

    @property
    def names(self):
        """The tuple of the names of the web."""
        return tuple(words_of(self._web[1]))

    def __eq__(self, other):
        return isinstance(other, Runner) and self.names == other.names and same(self.web, other.web)

    def __len__(self):
        return len(ways(self._web[0], self._web[1]))

    def __contains__(self, x):
        return is_path(x) and follow(self._web, x) is not None

    def __getitem__(self, at):
        check_path(at)
        return answer_at(self._web, at)

    def __iter__(self):
        raise TypeError("a runner cannot be iterated over")

    def do(self, statement):
        """Execute the statement and return its answer."""
        check_statement(statement)
        return self._execute(statement)

    def run(self, script):
        """Execute the script and return the list of the answers."""
        check_script(script)
        answers = []
        for statement in script:
            answers.append(self._execute(statement))
        return answers

    def undo(self):
        """Restore the web before the last statement that is done and not undone."""
        if not self._past:
            raise NothingToUndo("no statement is left to undo")
        self._web = self._past.pop()

    def paths(self, length):
        """Yield the paths of at most so many entries that lead to something: shorter ones first, then ascending."""
        check_length(length)
        objects, names = self._web
        # Each path of one length, and the fields that it can go on to: for the path of no entries, the names.
        level = [((), [(word, (number,)) for word, number in names])]
        for _ in range(length):
            level = [(path + (word,), fields_behind(objects, value)) for path, pairs in level for word, value in pairs]
            for path, _ in level:
                yield path

    def _execute(self, statement):
        """Execute what is a statement and return its answer."""
        answer, after = step(self._web, statement)
        if answer == "done":
            self._past.append(self._web)
            self._web = after
        return answer


class StillRunner(Runner):
    """A runner in which every object counts as frozen for sets."""

    def __init__(self, web):
        super().__init__(web)
        self._refusals = 0

    @property
    def refusals(self):
        """The number of the sets that were refused."""
        return self._refusals

    def _execute(self, statement):
        """Execute what is a statement and return its answer; refuse each set that leads somewhere."""
        if statement[0] != "set":
            return super()._execute(statement)
        answer = step(self._web, statement)[0]
        if answer == "none":
            return answer
        self._refusals += 1
        return "refused"
