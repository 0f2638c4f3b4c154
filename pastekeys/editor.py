"""Live texts: editors with operations that can be undone."""

from pastekeys.errors import AlreadyOpen, InvalidOperation, InvalidStep, TextError
from pastekeys.operations import Log, check_operations, executed
from pastekeys.texts import Text


class Editor:
    """A live text, made of steps at first."""

    def __init__(self, *steps):
        self._log = Log([Text(*steps)], [], 0)
        # What the log was at the beginning of the block that is open.
        self._kept = None

    @classmethod
    def replay(cls, steps, operations):
        """Return an editor of some steps after a list of operations."""
        if not isinstance(steps, (list, tuple)):
            raise InvalidStep(0)
        editor = cls(*steps)
        if not isinstance(operations, (list, tuple)):
            raise InvalidOperation(0)
        editor.apply(*operations)
        return editor

    @property
    def present_text(self):
        """The text."""
        return self._log.texts[self._log.done]

    @property
    def history(self):
        """The list of all operations in effect."""
        return self._log.operations[:self._log.done]

    def __len__(self):
        """Return how many operations are in effect."""
        return len(self.history)

    def write(self, word):
        """Add a step that writes a word, and return the size of the text."""
        return self._execute(("write", word))

    def paste(self, first, last, times):
        """Add a step that pastes, and return the size of the text."""
        return self._execute(("paste", first, last, times))

    def retype(self, place, letter):
        """Retype the key of a place, and return how many letters change."""
        return self._execute(("retype", place, letter))

    def _execute(self, operation):
        results = self.apply(operation)
        return results[0]

    def undo(self):
        """Undo the last operation in effect; return whether there is one."""
        if self._log.done == 0:
            return False
        self._log = self._log.moved(-1)
        return True

    def redo(self):
        """Execute the operation again that was undone last; return whether there is one."""
        if self._log.done == len(self._log.operations):
            return False
        self._log = self._log.moved(1)
        return True

    def apply(self, *operations):
        """Execute operations, all or none, and return the list of their results."""
        self._log, results = self._log.after(operations)
        return results

    def sizes_after(self, *operations):
        """Yield the size that the text would have after each of some operations."""
        check_operations(operations)
        text = self.present_text
        for operation in operations:
            text, _ = executed(text, operation)
            yield text.size

    def is_possible(self, *operations):
        """Return whether apply could execute some operations."""
        try:
            self._log.after(operations)
        except TextError:
            return False
        return True

    def __enter__(self):
        """Begin a block at whose end the editor is as it is now."""
        if self._kept is not None:
            raise AlreadyOpen("a block of this editor is open")
        self._kept = self._log
        return self

    def __exit__(self, kind, value, trace):
        self._log = self._kept
        self._kept = None
