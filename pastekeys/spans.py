"""Steps of a text, and the spans of places that they make."""

from pastekeys.checks import is_number, is_word
from pastekeys.errors import InvalidStep, TooLong

MOST_STEPS = 30
MOST_TIMES = 1000000000


class Span:
    """The places from begin to before end, made by one step.

    A written span has its own keys, from key on. A pasted one has no key:
    it repeats the places from source on, as many as width says.
    """

    def __init__(self, begin, end, key, source, width):
        self.begin = begin
        self.end = end
        self.key = key
        self.source = source
        self.width = width


def is_step(value, size):
    """Tell whether a value is a step that is possible in a text of this size."""
    if not isinstance(value, tuple):
        return False
    if len(value) == 2:
        return value[0] == "write" and is_word(value[1])
    if len(value) != 4 or value[0] != "paste":
        return False
    first, last, times = value[1:]
    return (is_number(first, 0, size - 1) and is_number(last, first, size - 1)
            and is_number(times, 1, MOST_TIMES))


def span_of(step, begin, key):
    """Return the span of a step, given the next place and the next key."""
    if step[0] == "write":
        return Span(begin, begin + len(step[1]), key, 0, 0)
    width = step[2] - step[1] + 1
    return Span(begin, begin + width * step[3], None, step[1], width)


def spans_of(steps, max_size):
    """Return the spans of steps; raise InvalidStep or TooLong at the first wrong step."""
    spans = []
    size = 0
    key = 0
    for index, step in enumerate(steps):
        if index >= MOST_STEPS or not is_step(step, size):
            raise InvalidStep(index)
        span = span_of(step, size, key)
        if span.end > max_size:
            raise TooLong("the text has too many letters after a step")
        if span.key is not None:
            key = key + span.end - span.begin
        size = span.end
        spans.append(span)
    return tuple(spans)


def key_at(spans, place):
    """Return the key that a place goes back to; the place must exist."""
    at = len(spans) - 1
    while place < spans[at].begin or spans[at].key is None:
        if place >= spans[at].begin:
            _, rest = divmod(place - spans[at].begin, spans[at].width)
            place = spans[at].source + rest
        at = at - 1
    return spans[at].key + place - spans[at].begin


def written_place(spans, key):
    """Return the place at which a key was written, which is its first one."""
    written = [span for span in spans if span.key is not None and span.key <= key]
    return written[-1].begin + key - written[-1].key


def moved_step(step, shift):
    """Return the step whose places count from shift places later."""
    if step[0] == "write":
        return step
    return ("paste", step[1] + shift, step[2] + shift, step[3])
