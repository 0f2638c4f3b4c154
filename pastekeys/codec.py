"""Texts as bytes."""

from pastekeys.checks import LETTERS, LONGEST_WORD, is_number
from pastekeys.errors import DecodeError, InvalidCount
from pastekeys.spans import MOST_STEPS, MOST_TIMES, span_of
from pastekeys.texts import Text

MARK = 80
WRITES = 0
PASTES = 1
# Each byte of a number holds this many values; all but its last one are higher.
GROUP = 128


class ByteSource:
    """Bytes that are read from left to right; offset is that of the next byte."""

    def __init__(self, data):
        self._data = data
        self.offset = 0

    def next_byte(self, low, high):
        """Read a byte from low to high."""
        if self.offset == len(self._data) or not low <= self._data[self.offset] <= high:
            raise DecodeError(self.offset)
        self.offset = self.offset + 1
        return self._data[self.offset - 1]

    def next_number(self, low, high):
        """Read the bytes of a number from low to high."""
        begin = self.offset
        while self.next_byte(0, 255) >= GROUP:
            pass
        groups = list(self._data[begin:self.offset])
        if len(groups) > 1 and groups[-1] == 0:
            raise DecodeError(self.offset - 1)
        value = 0
        for group in groups[::-1]:
            # What is too large already stays so: it need not grow for each byte.
            value = min(value * GROUP + (group & (GROUP - 1)), Text.MAX_SIZE)
        if not low <= value <= high:
            raise DecodeError(begin)
        return value

    def checksum(self):
        """Return the checksum of the bytes read so far."""
        return checksum_of(self._data[:self.offset])


def pack_bytes(values):
    """Return the bytes with the values of a list."""
    if not isinstance(values, list) or not all([is_number(value, 0, 255) for value in values]):
        raise InvalidCount("bytes are packed from a list of integers from 0 to 255")
    return bytes(values)


def unpack_bytes(data):
    """Return the values of bytes as a list."""
    return list(data)


def encode_text(text):
    """Return the bytes of a text."""
    values = [MARK, len(text.steps)]
    for step in text.steps:
        values.extend(_step_values(step))
    return pack_bytes([*values, checksum_of(values)])


def _step_values(step):
    """Return the values of the bytes of a step."""
    if step[0] == "write":
        return [WRITES, len(step[1]), *[LETTERS.index(letter) for letter in step[1]]]
    values = [PASTES]
    for number in step[1:]:
        values.extend(_number_values(number))
    return values


def _number_values(number):
    """Return the values of the bytes of a number, the lowest group first."""
    values = []
    while number >= GROUP:
        number, group = divmod(number, GROUP)
        values.append(group + GROUP)
    return [*values, number]


def checksum_of(values):
    """Return the checksum behind bytes with these values."""
    checksum = 3
    for value in values:
        _, checksum = divmod(7 * checksum + value, 227)
    return checksum


def decode_text(data):
    """Return the text of bytes."""
    if not isinstance(data, bytes):
        raise DecodeError(0)
    source = ByteSource(data)
    source.next_byte(MARK, MARK)
    steps = []
    size = 0
    for _ in range(source.next_byte(0, MOST_STEPS)):
        begin = source.offset
        step = _next_step(source, size)
        size = span_of(step, size, 0).end
        if size > Text.MAX_SIZE:
            raise DecodeError(begin)
        steps.append(step)
    checksum = source.checksum()
    source.next_byte(checksum, checksum)
    if source.offset < len(data):
        raise DecodeError(source.offset)
    return Text(*steps)


def _next_step(source, size):
    """Read a step that is possible in a text of this size."""
    if source.next_byte(WRITES, PASTES) == WRITES:
        letters = []
        for _ in range(source.next_byte(1, LONGEST_WORD)):
            letters.append(LETTERS[source.next_byte(0, len(LETTERS) - 1)])
        return ("write", "".join(letters))
    first = source.next_number(0, size - 1)
    last = source.next_number(first, size - 1)
    return ("paste", first, last, source.next_number(1, MOST_TIMES))
