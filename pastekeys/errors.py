"""The exceptions of the package."""


class TextError(ValueError):
    """The base class of all exceptions of the package."""


class InvalidStep(TextError):
    """An argument is not a step that is possible at its place."""

    def __init__(self, index):
        super().__init__(f"argument {index} is not a possible step")
        self.index = index


class TooLong(TextError):
    """A text has too many letters."""


class InvalidPlace(TextError):
    """A place or a range does not exist."""


class InvalidKey(TextError):
    """A key does not exist."""


class InvalidLetter(TextError):
    """A value is not a letter, or not a word."""


class InvalidNumber(TextError):
    """A number is out of range."""


class InvalidChanges(TextError):
    """An item of a list of changes is not a change."""

    def __init__(self, index):
        super().__init__(f"item {index} is not a change")
        self.index = index


class AlreadyOpen(TextError):
    """A block of an editor is entered within another one."""


class InvalidOperation(TextError):
    """An argument is not an operation."""

    def __init__(self, index):
        super().__init__(f"argument {index} is not an operation")
        self.index = index


class Contradiction(TextError):
    """An observation would leave no possible text."""


class NotationError(TextError):
    """A word of a row is wrong, missing or superfluous."""

    def __init__(self, row, word):
        super().__init__(f"row {row}, word {word} is not as it must be")
        self.row = row
        self.word = word


class InvalidCount(TextError):
    """A value is not a list of the values of bytes."""


class DecodeError(TextError):
    """A byte is not valid at its offset."""

    def __init__(self, offset):
        super().__init__(f"the byte at offset {offset} is not valid")
        self.offset = offset
