"""Texts as rows of words, and the table of keys."""

from pastekeys.checks import is_word
from pastekeys.counting import key_counts
from pastekeys.errors import NotationError
from pastekeys.texts import Text

FIGURES = "0123456789"
MOST_FIGURES = 18
# How many words the row of a step has, by its first word.
ROW_LENGTHS = {"write": 2, "paste": 4}


def format_text(text):
    """Return the rows of a text."""
    return "\n".join([" ".join([str(part) for part in step]) for step in text.steps])


def parse_text(rows):
    """Return the text of rows."""
    if not isinstance(rows, str):
        raise NotationError(0, 0)
    if rows == "":
        return Text()
    steps = [_parsed_row(at, row.split(" ")) for at, row in enumerate(rows.split("\n"))]
    return Text(*steps)


def _parsed_row(at, words):
    """Return the step of the row with a number, given its words."""
    kind = words[0]
    if kind not in ROW_LENGTHS:
        raise NotationError(at, 0)
    length = ROW_LENGTHS[kind]
    for number in range(1, length):
        if number >= len(words) or not _is_right(kind, words[number]):
            raise NotationError(at, number)
    if len(words) > length:
        raise NotationError(at, length)
    if kind == "write":
        return (kind, words[1])
    return (kind, int(words[1]), int(words[2]), int(words[3]))


def _is_right(kind, word):
    """Tell whether a word may stand behind the first one of a row."""
    return is_word(word) if kind == "write" else _is_figures(word)


def _is_figures(word):
    """Tell whether a word is a number in figures without leading zeros."""
    if not 1 <= len(word) <= MOST_FIGURES or (word[0] == "0" and word != "0"):
        return False
    return all([sign in FIGURES for sign in word])


def key_table(text):
    """Return a table of the keys, their letters and how often they stand in a text."""
    counts = key_counts(text, 0, text.size - 1)
    rows = []
    for key, many in enumerate(counts):
        letter = text.typed_keys[key]
        rows.append(f"{key:>4} {letter} {many:>26,}")
    return "\n".join(rows)
