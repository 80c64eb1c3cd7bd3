"""The errors that the program raises; each keeps in `value` what is wrong."""

# The document wants what a class's interface lists in the class itself, so each one has its own __init__.


class TellError(ValueError):
    """The common base of all errors of the program."""

    def __init__(self, value):
        self.value = value


class InvalidName(TellError):
    """A text that is not one to eight letters from a to z."""

    def __init__(self, value):
        self.value = value


class InvalidStatement(TellError):
    """The place of a statement that is none."""

    def __init__(self, value):
        self.value = value


class NothingHandled(TellError):
    """The place of an `again` or a `from` that stands in no handler."""

    def __init__(self, value):
        self.value = value


class UnknownStep(TellError):
    """A name that is not one of a program's steps."""

    def __init__(self, value):
        self.value = value


class UnknownPlace(TellError):
    """A list that is not the place of a statement that is asked for."""

    def __init__(self, value):
        self.value = value


class RunEnded(TellError):
    """An answer that cannot be given to a run."""

    def __init__(self, value):
        self.value = value


class NothingToUndo(TellError):
    """A wish to take back an answer where none was given."""

    def __init__(self, value):
        self.value = value


class Unreadable(TellError):
    """A text that nothing has."""

    def __init__(self, value):
        self.value = value
