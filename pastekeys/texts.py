"""Texts that are typed and pasted."""

from pastekeys.checks import is_letter, is_number
from pastekeys.errors import InvalidKey, InvalidLetter, InvalidNumber, InvalidPlace, InvalidStep
from pastekeys.spans import MOST_TIMES, key_at, moved_step, spans_of


class Text:
    """A text made of steps; it never changes.

    The attribute spans is for the package itself: the spans of the steps.
    """

    MAX_SIZE = 1000000000000000000

    def __init__(self, *steps):
        self._steps = steps
        self.spans = spans_of(steps, Text.MAX_SIZE)
        self._size = self.spans[-1].end if self.spans else 0
        self._typed = "".join([step[1] for step in steps if step[0] == "write"])

    @classmethod
    def of_word(cls, word):
        """Return the text of one written word."""
        return cls(("write", word))

    @classmethod
    def of_steps(cls, steps):
        """Return the text of a list of steps."""
        if not isinstance(steps, (list, tuple)):
            raise InvalidStep(0)
        return cls(*steps)

    @property
    def steps(self):
        """The tuple of all steps."""
        return self._steps

    @property
    def typed_keys(self):
        """The string of the letters of all keys."""
        return self._typed

    @property
    def size(self):
        """The number of places."""
        return self._size

    def __call__(self, place):
        """Return the key of a place."""
        self._check_place(place)
        return key_at(self.spans, place)

    def __getitem__(self, at):
        """Return the letter of a place."""
        self._check_place(at)
        return self._typed[key_at(self.spans, at)]

    def _check_place(self, place):
        if not is_number(place, 0, self._size - 1):
            raise InvalidPlace("the text has no such place")

    # Without this, Python would walk a text by its indexes.
    def __iter__(self):
        raise TypeError("a text cannot be walked in loops")

    def __contains__(self, x):
        """Tell whether a letter stands in the text."""
        # Each key stands at least at the place where it was written.
        return is_letter(x) and x in self._typed

    def __eq__(self, other):
        return isinstance(other, Text) and self._steps == other._steps

    def __add__(self, other):
        """Return the text of the steps of both, one after the other."""
        if not isinstance(other, Text):
            return NotImplemented
        moved = [moved_step(step, self._size) for step in other._steps]
        steps = [*self._steps, *moved]
        return Text(*steps)

    def __mul__(self, other):
        """Return the text that stands there a number of times."""
        if not is_number(other, 1, MOST_TIMES):
            raise InvalidNumber("a text stands there from 1 to 10 ** 9 times")
        if other == 1 or self._size == 0:
            return self
        steps = [*self._steps, ("paste", 0, self._size - 1, other - 1)]
        return Text(*steps)

    def retyped(self, key, letter):
        """Return the text in which a key has a letter."""
        if not is_number(key, 0, len(self._typed) - 1):
            raise InvalidKey("the text has no such key")
        if not is_letter(letter):
            raise InvalidLetter("a key has a letter from a to z")
        return self.with_letters(self._typed[:key] + letter + self._typed[key + 1:])

    def with_letters(self, letters):
        """Return the text of the same steps whose keys have these letters."""
        steps = []
        for step, span in zip(self._steps, self.spans):
            if span.key is None:
                steps.append(step)
            else:
                steps.append(("write", letters[span.key:span.key + len(step[1])]))
        return Text(*steps)
