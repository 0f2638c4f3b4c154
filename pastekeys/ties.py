"""Tied keys: which ones must have equal letters, and the fewest changes for that."""

from pastekeys.checks import is_letter, is_number
from pastekeys.errors import InvalidChanges, InvalidNumber, TooLong

LONGEST = 2000
LONGEST_FOR_ALL_PERIODS = 200


def equal_classes(text, other):
    """Return the classes of tied keys if two texts shall be equal, or None."""
    places = tie_pattern(text)
    own_keys = len(text.typed_keys)
    other_places = [own_keys + key for key in tie_pattern(other)]
    if len(places) != len(other_places):
        return None
    return _classes(own_keys + len(other.typed_keys), list(zip(places, other_places)))


def fewest_for_equal(text, other):
    """Return the fewest changes that make two texts equal, or None."""
    classes = equal_classes(text, other)
    if classes is None:
        return None
    return _fewest_changes(text.typed_keys + other.typed_keys, classes)


def mirror_classes(text):
    """Return the classes of tied keys if a text shall read the same backward."""
    places = tie_pattern(text)
    return _classes(len(text.typed_keys), list(zip(places, places[::-1])))


def fewest_for_mirror(text):
    """Return the fewest changes after which a text reads the same backward."""
    return _fewest_changes(text.typed_keys, mirror_classes(text))


def period_classes(text, period):
    """Return the classes of tied keys if a text shall repeat after a period."""
    places = tie_pattern(text)
    if not is_number(period, 1, max(1, text.size)):
        raise InvalidNumber("a period is from 1 to the size of the text")
    return _repeating_classes(text, places, period)


def fewest_for_period(text, period):
    """Return the fewest changes after which a text repeats after a period."""
    return _fewest_changes(text.typed_keys, period_classes(text, period))


def cheapest_period(text):
    """Return the period that needs the fewest changes, and how many, or None."""
    _check_size(text, LONGEST_FOR_ALL_PERIODS)
    places = tie_pattern(text)
    best = None
    for period in range(1, text.size):
        many = len(_fewest_changes(text.typed_keys, _repeating_classes(text, places, period)))
        if best is None or many < best[1]:
            best = (period, many)
    return best


def retyped_by(text, changes):
    """Return a text after a list of changes, made one after another."""
    if not isinstance(changes, list):
        raise InvalidChanges(0)
    for index, change in enumerate(changes):
        if not _is_change(text, change):
            raise InvalidChanges(index)
    letters = list(text.typed_keys)
    for key, letter in changes:
        letters[key] = letter
    return text.with_letters("".join(letters))


def tie_pattern(text):
    """Return a number for each place; equal numbers are places that always read alike."""
    _check_size(text, LONGEST)
    # A key first stands where it was written, so keys first stand in their own order.
    return [text(place) for place in range(text.size)]


def first_unlike_tie(text, other):
    """Return the first place at which the patterns of two texts differ, or None."""
    numbers, other_numbers = tie_pattern(text), tie_pattern(other)
    for place, (number, other_number) in enumerate(zip(numbers, other_numbers)):
        if number != other_number:
            return place
    if len(numbers) == len(other_numbers):
        return None
    return min(len(numbers), len(other_numbers))


def _check_size(text, longest):
    if text.size > longest:
        raise TooLong("the text has too many letters for its ties")


def _is_change(text, value):
    """Tell whether a value is a tuple of a key of a text and a letter."""
    if not isinstance(value, tuple) or len(value) != 2:
        return False
    return is_number(value[0], 0, len(text.typed_keys) - 1) and is_letter(value[1])


def _repeating_classes(text, places, period):
    """Return the classes if each place is tied to the one a period later."""
    return _classes(len(text.typed_keys), list(zip(places, places[period:])))


def _classes(many, pairs):
    """Return the classes of so many keys, given the pairs of tied ones."""
    parents = list(range(many))
    for key, other in pairs:
        least, root = sorted([_root(parents, key), _root(parents, other)])
        parents[root] = least
    # A root is the least key of its class, so the classes come in this order.
    classes = {}
    for key in range(many):
        classes.setdefault(_root(parents, key), []).append(key)
    return list(classes.values())


def _root(parents, key):
    """Return the key that stands for the class of a key."""
    while parents[key] != key:
        # Shorter ways up keep later searches short.
        parents[key] = parents[parents[key]]
        key = parents[key]
    return key


def _fewest_changes(letters, classes):
    """Return the ascending changes that give each class its most frequent letter."""
    changes = []
    for tied in classes:
        best = _most_frequent([letters[key] for key in tied])
        changes.extend([(key, best) for key in tied if letters[key] != best])
    return sorted(changes)


def _most_frequent(letters):
    """Return the most frequent letter, of several the first one in the alphabet."""
    return max(sorted(set(letters)), key=lambda letter: letters.count(letter))
