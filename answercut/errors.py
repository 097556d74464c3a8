"""The errors that the package raises.

Those with fields set nothing else: their arguments stay as they were passed,
so a caller can copy such an error or send it to another process.
"""


class AnswerError(ValueError):
    """The base class of all errors of the package."""


class SyntaxProblem(AnswerError):
    """A text in which reading can't go on at a line and column, counted from 1."""

    def __init__(self, line, column):
        self.line = line
        self.column = column


class TooMany(AnswerError):
    """More than the limit of what is counted."""

    def __init__(self, limit):
        self.limit = limit


class NoLine(AnswerError):
    """Tables without a line; the paper is a triad with its chains."""

    def __init__(self, paper):
        self.paper = paper


class NotNested(AnswerError):
    """A question that is not nested; the paper tells two names that cross."""

    def __init__(self, paper):
        self.paper = paper


class NoTable(AnswerError):
    """Something is no table where one is needed."""


class NoRow(AnswerError):
    """Something is no row where one is needed."""


class RowTaken(AnswerError):
    """A row is there already."""


class NoQuestion(AnswerError):
    """Something is no question where one is needed."""


class NoAnswer(AnswerError):
    """Something is no answer where one is needed."""


class NoPrice(AnswerError):
    """Something is no price, or no prices, where they are needed."""


class NameTaken(AnswerError):
    """A name is in use already."""


class NoMark(AnswerError):
    """Something is no number of what was noted or is held."""


class InvalidCommand(AnswerError):
    """A line is no command."""
