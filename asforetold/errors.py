"""The errors of the package, one class for each kind of failure."""


class ForetoldError(ValueError):
    """The base class of all errors of the package."""


class TextFault(ForetoldError):
    """A text that is read has a fault, at a line and a column that count from 1."""

    def __init__(self, line, column, words):
        super().__init__(f"line {line}, column {column}: {words}")
        self.line = line
        self.column = column
        self.words = words


class OutOfRange(ForetoldError):
    """What was passed under this name is beyond its bounds."""

    def __init__(self, name):
        super().__init__(f"{name} is out of range")
        self.name = name


class TooManyRoots(ForetoldError):
    """The scheduler has no place for another root."""


class GraceTooShort(ForetoldError):
    """A plan cleans up for longer than the grace."""


class NoRoot(ForetoldError):
    """There is no root with this number."""


class NotReady(ForetoldError):
    """No task with this number is ready to be resumed."""


class TasksReady(ForetoldError):
    """Tasks are ready to be resumed, and must be so first."""


class NotSettled(ForetoldError):
    """A settling step would change something, and must be made first."""


class UnlikeEffects(ForetoldError):
    """Two effects of one path differ."""


class UnlikeNews(ForetoldError):
    """News of a root contradict what is known of it."""


class NotKept(ForetoldError):
    """The disk keeps no journal."""


class NotOpen(ForetoldError):
    """The power was cut since the journal or the house was opened."""


class HouseFull(ForetoldError):
    """There is no place for another deed."""


class PowerCut(ForetoldError):
    """The power was cut."""


class NoLetter(ForetoldError):
    """There is no letter with this index."""
