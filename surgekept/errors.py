"""The errors of the program."""


class KeepError(ValueError):
    """The base class of all errors that the program raises."""


class InvalidWorks(KeepError):
    """Works with a number that is out of its bounds."""


class InvalidCourse(KeepError):
    """A course with too few or too many hours, or with an hour that is none."""


class InvalidState(KeepError):
    """A state that the works do not have, or an hour that the course does not have."""


class InvalidMove(KeepError):
    """A gate that may not be moved, or a sea or river out of its bounds."""


class InvalidCommand(KeepError):
    """A command that is none."""


class InvalidLine(KeepError):
    """A line of a text that is not written as it should be."""

    def __init__(self, line):
        KeepError.__init__(self, f"line {line}")
        self.line = line
