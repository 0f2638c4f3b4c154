"""How often keys and letters stand in a text, and where."""

from pastekeys.checks import is_letter, is_number
from pastekeys.errors import InvalidKey, InvalidLetter, InvalidNumber, InvalidPlace
from pastekeys.tallies import Tally

MOST_LETTERS = 1000
MOST_PLACES = 100
MAX_NUMBER = 1000000000000000000


def key_counts(text, first, last):
    """Return how often each key stands in a range, by the numbers of the keys."""
    _check_range(text, first, last)
    counts = [0] * len(text.typed_keys)
    # The range is what stands before its end, less what stands before its first place.
    weights = {}
    _add_weight(weights, last + 1, 1)
    _add_weight(weights, first, -1)
    # The spans are left from the last one on: a span goes back to earlier places only.
    for span in text.spans[::-1]:
        within = [bound for bound in weights if bound > span.begin]
        for place in within:
            weight = weights.pop(place)
            _add_weight(weights, span.begin, weight)
            if span.key is None:
                _leave_pasted(weights, span, place, weight)
            else:
                for key in range(span.key, span.key + place - span.begin):
                    counts[key] += weight
    return counts


def _add_weight(weights, place, weight):
    """Count what stands before a place more often, by a weight."""
    weights[place] = weights.get(place, 0) + weight


def _leave_pasted(weights, span, place, weight):
    """Count the places of a pasted span before a place where they were copied from."""
    copies, rest = divmod(place - span.begin, span.width)
    _add_weight(weights, span.source + span.width, copies * weight)
    _add_weight(weights, span.source + rest, weight)
    _add_weight(weights, span.source, -(copies + 1) * weight)


def letter_counts(text, first, last):
    """Return a dict of how often each letter that stands in a range stands there."""
    sums = {}
    for letter, many in zip(text.typed_keys, key_counts(text, first, last)):
        sums[letter] = sums.get(letter, 0) + many
    return {letter: sums[letter] for letter in sorted(sums) if sums[letter] > 0}


def letters_between(text, first, last):
    """Return the string of the letters of a range."""
    _check_range(text, first, last)
    if last - first + 1 > MOST_LETTERS:
        raise InvalidNumber("the range has too many letters")
    return "".join([text[place] for place in range(first, last + 1)])


def nth_place_of_key(text, key, number):
    """Return the place at which a key stands for the time with a number, or None."""
    _check_key(text, key)
    _check_number(number)
    return Tally(text.spans, [key]).nth_place(number)


def nth_place_of_letter(text, letter, number):
    """Return the place at which a letter stands for the time with a number, or None."""
    if not is_letter(letter):
        raise InvalidLetter("a letter is from a to z")
    _check_number(number)
    wanted = [key for key, typed in enumerate(text.typed_keys) if typed == letter]
    return Tally(text.spans, wanted).nth_place(number)


def places_of_key(text, key, first):
    """Yield the places of a key from a first place on, at most 100 of them."""
    _check_key(text, key)
    if not is_number(first, 0, text.size):
        raise InvalidPlace("the text has no such place")
    tally = Tally(text.spans, [key])
    passed = tally.count_before(first)
    for number in range(passed, passed + MOST_PLACES):
        place = tally.nth_place(number)
        if place is None:
            return
        yield place


def _check_range(text, first, last):
    # An empty range ends one place before its first one.
    if not is_number(first, 0, text.size) or not is_number(last, first - 1, text.size - 1):
        raise InvalidPlace("the text has no such range")


def _check_key(text, key):
    if not is_number(key, 0, len(text.typed_keys) - 1):
        raise InvalidKey("the text has no such key")


def _check_number(number):
    if not is_number(number, 0, MAX_NUMBER):
        raise InvalidNumber("a number is from 0 to 10 ** 18")
