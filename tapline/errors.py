"""All errors of the program."""


class TapError(ValueError):
    """The base class of all errors of the program."""


class TextError(TapError):
    """A text is no script; the place is that of the first wrong character or token."""

    def __init__(self, row, column):
        super().__init__(f"row {row}, column {column}")
        self.row = row
        self.column = column


class BadCharacter(TextError):
    """A character can begin no token."""


class BadNumber(TextError):
    """What begins with a digit is no number."""


class BadQuote(TextError):
    """A quotation mark begins no text."""


class Unexpected(TextError):
    """The grammar does not allow a token at its place."""


class ScriptError(TapError):
    """The names or kinds of a script are wrong; the word says which."""

    def __init__(self, word):
        super().__init__(f"{word}")
        self.word = word


class DoubleName(ScriptError):
    """A name is declared twice."""


class UnknownName(ScriptError):
    """A name is not there."""


class WrongCount(ScriptError):
    """There are too many or too few keys, arguments or values."""


class WrongKind(ScriptError):
    """A part has another kind than its place needs."""


class CodeError(TapError):
    """The base class of the errors of code."""


class BadStep(CodeError):
    """A step is none, does not fit its row, or its claim does not hold."""


class BadText(CodeError):
    """A text is no code; the row is the first wrong one."""

    def __init__(self, row):
        super().__init__(f"row {row}")
        self.row = row


class BadBytes(CodeError):
    """A row of bytes is no code."""


class BadLine(TapError):
    """A text is not the line of an item."""
