"""The operations of an editor: their form, what they do, and the log of them."""

from pastekeys.counting import key_counts
from pastekeys.errors import InvalidOperation
from pastekeys.texts import Text

# How many items the tuple of an operation has, its name included.
LENGTHS = {"write": 2, "paste": 4, "retype": 3}


class Log:
    """The operations of an editor, and the texts before, between and behind them.

    The first ones, as many as done says, are in effect; the others are undone.
    A log never changes, so an editor can come back to it.
    """

    def __init__(self, texts, operations, done):
        self.texts = texts
        self.operations = operations
        self.done = done

    def moved(self, shift):
        """Return the log of which so many operations more are in effect."""
        return Log(self.texts, self.operations, self.done + shift)

    def after(self, added):
        """Return the log after the added operations, and the list of their results."""
        check_operations(added)
        if len(added) == 0:
            # Only an operation that is executed makes an end to what can be redone.
            return self, []
        texts = self.texts[:self.done + 1]
        results = []
        for operation in added:
            text, result = executed(texts[-1], operation)
            texts.append(text)
            results.append(result)
        operations = [*self.operations[:self.done], *added]
        return Log(texts, operations, len(operations)), results


def check_operations(values):
    """Raise InvalidOperation for the first value that is not an operation."""
    for index, value in enumerate(values):
        if not is_operation(value):
            raise InvalidOperation(index)


def is_operation(value):
    """Tell whether a value has the form of an operation; its arguments may be wrong."""
    if not isinstance(value, tuple) or len(value) == 0 or not isinstance(value[0], str):
        return False
    return LENGTHS.get(value[0]) == len(value)


def executed(text, operation):
    """Return the text after an operation, and the result of the operation."""
    if operation[0] == "retype":
        return _with_place_retyped(text, operation[1], operation[2])
    # The other operations are written like the steps that they add.
    longer = Text.of_steps([*text.steps, operation])
    return longer, longer.size


def _with_place_retyped(text, place, letter):
    """Return the text with the key of a place retyped, and how many letters change."""
    key = text(place)
    changed = text.retyped(key, letter)
    if text.typed_keys[key] == letter:
        return changed, 0
    return changed, key_counts(text, 0, text.size - 1)[key]
