"""The errors that the package raises."""


class WebError(ValueError):
    """The error from which all others derive."""


class InvalidWeb(WebError):
    """An argument is not a web."""


class InvalidPath(WebError):
    """An argument is not a path."""


class InvalidScript(WebError):
    """An argument is not a script."""


class InvalidStatement(WebError):
    """An argument is not a statement."""


class InvalidName(WebError):
    """An argument is not a word, or not one of the names of the web."""


class InvalidValue(WebError):
    """An argument is neither an integer nor a path."""


class InvalidText(WebError):
    """An argument is not the text of a web."""


class InvalidNumber(WebError):
    """An argument is not an integer within its bounds."""


class OtherNames(WebError):
    """Two webs do not have the same names."""


class TooLarge(WebError):
    """A result would have more objects than a web can have."""


class NothingToUndo(WebError):
    """No statement is left that could be undone."""


class NoObject(WebError):
    """The path does not lead where it has to lead."""

    def __init__(self, path=None):
        super().__init__("the path does not lead to what is asked for")
        self.path = path


class NotFrozen(WebError):
    """The path leads to an open object where only frozen ones may be."""

    def __init__(self, path=None):
        super().__init__("the path leads to an open object")
        self.path = path
