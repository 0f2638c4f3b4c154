"""What counts as a number, as a letter and as a word."""

LETTERS = "abcdefghijklmnopqrstuvwxyz"
LONGEST_WORD = 20


def is_number(value, low, high):
    """Tell whether a value is an integer from low to high."""
    # True and False are integers for Python, but not for the document.
    return isinstance(value, int) and not isinstance(value, bool) and low <= value <= high


def is_letter(value):
    """Tell whether a value is a letter from a to z."""
    return isinstance(value, str) and len(value) == 1 and value in LETTERS


def is_word(value):
    """Tell whether a value is a word that one step may write."""
    if not isinstance(value, str) or not 1 <= len(value) <= LONGEST_WORD:
        return False
    return all([sign in LETTERS for sign in value])
