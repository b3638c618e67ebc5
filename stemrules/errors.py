"""The errors of the package: one class for each kind of failure."""


class RuleError(ValueError):
    """The kind of all errors of the package; made with a message."""


class TooMany(RuleError):
    """There is more of something than the limit."""

    def __init__(self, limit):
        self.limit = limit

    def __str__(self):
        return f"more than {self.limit}"


class SyntaxProblem(RuleError):
    """A text is wrong at this line and column, both counted from 1."""

    def __init__(self, line, column):
        self.line = line
        self.column = column

    def __str__(self):
        return f"line {self.line}, column {self.column}"


class NoName(RuleError):
    """Something that is to be a name is none."""


class NoBook(RuleError):
    """Something that is to be a book is none."""


class NoFiles(RuleError):
    """Something that is to be a set of files is none."""


class NoRule(RuleError):
    """Something that is to be the number of a rule is none."""


class NoMark(RuleError):
    """There is nothing to undo or to do again."""


class Mismatch(RuleError):
    """Something has another form than is asked for, or does not fit."""


class InvalidCommand(RuleError):
    """A line is none of the commands."""
