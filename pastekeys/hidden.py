"""Readers who learn the letters of keys from letters at places."""

from pastekeys.checks import LETTERS, is_letter, is_number, is_word
from pastekeys.errors import Contradiction, InvalidLetter, InvalidPlace
from pastekeys.spans import key_at, written_place


class KeyReader:
    """What is known about the keys of a text.

    Keys that were heard to have equal letters form a group, which is named
    after its least key.
    """

    def __init__(self, text):
        self._text = text
        self._groups = list(range(len(text.typed_keys)))
        # The known letters, by the groups.
        self._letters = {}
        self._accepted = []

    @classmethod
    def from_log(cls, text, *observations):
        """Return a reader after observations."""
        reader = cls(text)
        for name, place, told in observations:
            if name == "see":
                reader.see(place, told)
            elif name == "see_word":
                reader.see_word(place, told)
            else:
                reader.hear_alike(place, told)
        return reader

    @property
    def known_letters(self):
        """The dict from each key whose letter is known to the letter."""
        known = {}
        for key, group in enumerate(self._groups):
            if group in self._letters:
                known[key] = self._letters[group]
        return known

    @property
    def observations(self):
        """The list of all accepted observations."""
        return list(self._accepted)

    def __getitem__(self, at):
        """Return the known letter of a place that exists, or None."""
        if not is_number(at, 0, self._text.size - 1):
            return None
        return self._letters.get(self._groups[key_at(self._text.spans, at)])

    # Without this, Python would walk a reader by its indexes.
    def __iter__(self):
        raise TypeError("a reader cannot be walked in loops")

    def see(self, place, letter):
        """Record the letter of a place; return of how many keys the letters are known."""
        group = self._group_of(place)
        if not is_letter(letter):
            raise InvalidLetter("a place has a letter from a to z")
        self._learn([group], letter)
        self._accepted.append(("see", place, letter))
        return len(self.known_letters)

    def see_word(self, first, word):
        """Record the letters of a word; return of how many keys the letters are known."""
        if not is_number(first, 0, self._text.size):
            raise InvalidPlace("the text has no such place")
        if not is_word(word):
            raise InvalidLetter("a word has 1 to 20 letters from a to z")
        # A word that is too long has a place that does not exist.
        groups = [self._group_of(first + at) for at in range(len(word))]
        self._learn(groups, word)
        self._accepted.append(("see_word", first, word))
        return len(self.known_letters)

    def _learn(self, groups, word):
        """Know the letters of groups, which are those of a word, or raise Contradiction."""
        # All or none: what is known changes only when the whole word is possible.
        letters = dict(self._letters)
        for group, letter in zip(groups, word):
            if letters.setdefault(group, letter) != letter:
                raise Contradiction("a place has another letter")
        self._letters = letters

    def hear_alike(self, place, other):
        """Record that two places have equal letters; return how many texts remain."""
        least, gone = sorted([self._group_of(place), self._group_of(other)])
        letter = self._letters.get(gone, self._letters.get(least))
        if letter is not None:
            if self._letters.get(least, letter) != letter:
                raise Contradiction("the places have different letters")
            self._letters[least] = letter
        self._groups = [least if group == gone else group for group in self._groups]
        self._accepted.append(("hear_alike", place, other))
        return self.count_texts()

    def count_texts(self):
        """Return how many texts remain possible."""
        count = 1
        for _ in self._open_groups():
            count = count * len(LETTERS)
        return count

    def is_surely_alike(self, place, other):
        """Return whether two places have equal letters in all texts that remain."""
        one, two = self._group_of(place), self._group_of(other)
        if one == two:
            return True
        return one in self._letters and self._letters[one] == self._letters.get(two)

    def fewest_places(self):
        """Return the fewest places whose letters would make all letters known."""
        # Each group needs a place; the first one that it has is that of its least key.
        return [written_place(self._text.spans, key) for key in self._open_groups()]

    def text_with(self, letter):
        """Return the text with the known letters, and a certain one for all other keys."""
        if not is_letter(letter):
            raise InvalidLetter("a key has a letter from a to z")
        letters = [self._letters.get(group, letter) for group in self._groups]
        return self._text.with_letters("".join(letters))

    def _group_of(self, place):
        """Return the group of the key of a place."""
        return self._groups[self._text(place)]

    def _open_groups(self):
        """Return the ascending list of the groups whose letters are not known."""
        named = [key for key, group in enumerate(self._groups) if key == group]
        return [group for group in named if group not in self._letters]
