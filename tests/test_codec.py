"""Texts as bytes (point 15)."""

import random
import unittest

from plain import WRONG_NUMBERS, random_steps
from pastekeys.codec import decode_text, encode_text, pack_bytes, unpack_bytes
from pastekeys.errors import DecodeError, InvalidCount
from pastekeys.texts import Text

BILLION = 10 ** 9
LARGEST = (("write", "a"), ("paste", 0, 0, BILLION - 1), ("paste", 0, BILLION - 1, BILLION - 1))


def number(value):
    """The bytes of a number."""
    found = []
    while True:
        value, rest = value >> 7, value & 127
        found.append(rest + (128 if value else 0))
        if not value:
            return found


def checked(values):
    """Values with their checksum behind them."""
    rest = 3
    for value in values:
        rest = (7 * rest + value) % 227
    return bytes([*values, rest])


def values_of(steps):
    """The values of the bytes of steps, without the checksum."""
    values = [80, len(steps)]
    for step in steps:
        if step[0] == "write":
            values += [0, len(step[1])] + [ord(letter) - 97 for letter in step[1]]
        else:
            values += [1] + number(step[1]) + number(step[2]) + number(step[3])
    return values


def first_invalid(data):
    """The offset of the first invalid byte, or None; written as one walk over the bytes."""
    data = list(data)
    if data[:1] != [80]:
        return 0
    if len(data) < 2 or data[1] > 30:
        return 1
    at, size = 2, 0
    for _ in range(data[1]):
        begin = at
        if at >= len(data) or data[at] > 1:
            return at
        if data[at] == 0:
            at += 1
            if at >= len(data) or not 0 < data[at] < 21:
                return at
            end = at + 1 + data[at]
            for at in range(at + 1, end):
                if at >= len(data) or data[at] > 25:
                    return at
            at, size = end, size + end - begin - 2
        else:
            at, found = at + 1, []
            for part in range(3):
                low = at
                while at < len(data) and data[at] > 127:
                    at += 1
                if at >= len(data) or (data[at] == 0 and at > low):
                    return at
                found.append(sum((byte & 127) << 7 * k for k, byte in enumerate(data[low:at + 1])))
                limits = [range(size), range(found[0], size), range(1, BILLION + 1)][part]
                if found[-1] not in limits:
                    return low
                at += 1
            size += (found[1] - found[0] + 1) * found[2]
        if size > 10 ** 18:
            return begin
    if at >= len(data) or data[at] != checked(data[:at])[-1]:
        return at
    return None if at + 1 == len(data) else at + 1


class Case(unittest.TestCase):
    def wrong_at(self, offset, data):
        with self.assertRaises(DecodeError) as caught:
            decode_text(data)
        self.assertEqual(caught.exception.offset, offset, list(data) if isinstance(data, bytes) else data)


class Packing(Case):
    def test_values(self):
        for values in ([], [0], [255], [1, 255, 0, 0], list(range(256)), [7] * 1000):
            data = pack_bytes(values)
            self.assertIsInstance(data, bytes)
            self.assertEqual(list(data), values)
            self.assertEqual(unpack_bytes(data), values)
            self.assertIsInstance(unpack_bytes(data), list)
            self.assertEqual(pack_bytes(unpack_bytes(data)), data)

    def test_wrong_arguments(self):
        wrong = [None, True, False, 0, 3, "", "ab", (), (1, 2), {}, b"", b"ab", [256], [-1], [10 ** 18], [1, [2]]]
        wrong += [[1, value, 2] for value in WRONG_NUMBERS] + [[value] for value in WRONG_NUMBERS]
        for value in wrong:
            with self.assertRaises(InvalidCount) as caught:
                pack_bytes(value)
            self.assertIs(caught.exception.__class__, InvalidCount)

    def test_lists_are_not_kept(self):
        values = [1, 2]
        data = pack_bytes(values)
        self.assertEqual(values, [1, 2])
        values.append(3)
        unpack_bytes(data).append(3)
        self.assertEqual(unpack_bytes(data), [1, 2])


class Encoding(Case):
    def test_no_steps(self):
        # 3, then 7 * 3 + 80 = 101, then 7 * 101 + 0 = 707 = 3 * 227 + 26.
        self.assertEqual(list(encode_text(Text())), [80, 0, 26])

    def test_steps(self):
        data = list(encode_text(Text(("write", "abz"), ("paste", 0, 2, 300))))
        self.assertEqual(data[:-1], [80, 2, 0, 3, 0, 1, 25, 1, 0, 2, 172, 2])
        self.assertEqual(bytes(data), checked(data[:-1]))

    def test_groups_of_seven_bits(self):
        for times, shown in ((1, [1]), (127, [127]), (128, [128, 1]), (129, [129, 1]), (16383, [255, 127]),
                             (16384, [128, 128, 1]), (BILLION, [128, 148, 235, 220, 3])):
            data = list(encode_text(Text(("write", "a"), ("paste", 0, 0, times))))
            self.assertEqual(data[5:-1], [1, 0, 0] + shown)

    def test_large_places(self):
        text = Text(*LARGEST[:2], ("paste", 0, BILLION - 1, 10 ** 8), ("paste", 10 ** 17, 10 ** 17, 7))
        data = encode_text(text)
        self.assertEqual(data, checked(values_of(text.steps)))
        self.assertEqual(decode_text(data), text)

    def test_kinds(self):
        self.assertIsInstance(encode_text(Text()), bytes)
        steps = decode_text(encode_text(Text(("write", "ab"), ("paste", 0, 1, 2)))).steps
        self.assertEqual([part.__class__ for step in steps for part in step], [str, str, str, int, int, int])

    def test_there_and_back(self):
        choice = random.Random(17)
        for _ in range(300):
            text = Text(*random_steps(choice, 30, 10 ** 6, "abyz"))
            data = encode_text(text)
            self.assertEqual(data, checked(values_of(text.steps)))
            self.assertEqual(decode_text(data), text)
            self.assertIsNone(first_invalid(data))

    def test_edges(self):
        for steps in ((("write", "z" * 20),), (("write", "a"),) * 30, LARGEST):
            self.assertEqual(decode_text(encode_text(Text(*steps))), Text(*steps))


class WrongBytes(Case):
    def test_no_bytes(self):
        self.wrong_at(0, b"")
        for wrong in (None, True, 80, "", "P", (), (80, 0, 26), [], [80, 0, 26]):
            self.wrong_at(0, wrong)

    def test_first_byte(self):
        for byte in (0, 1, 79, 81, 208, 255):
            self.wrong_at(0, bytes([byte]))
            self.wrong_at(0, checked([byte, 0]))

    def test_number_of_steps(self):
        for many in (31, 32, 128, 255):
            self.wrong_at(1, bytes([80, many]))
            self.wrong_at(1, checked([80, many] + [0, 1, 0] * many))
        self.wrong_at(1, bytes([80]))
        self.assertEqual(decode_text(checked([80, 30] + [0, 1, 0] * 30)), Text(*[("write", "a")] * 30))
        # Fewer or more steps than said: the next byte is not a checksum, or no kind.
        self.wrong_at(5, bytes([80, 1, 0, 1, 0, 0, 1, 0]))

    def test_kinds_of_steps(self):
        for kind in (2, 3, 127, 128, 255):
            self.wrong_at(2, bytes([80, 1, kind]))
            self.wrong_at(5, checked([80, 2, 0, 1, 0, kind, 0, 0]))

    def test_numbers_of_letters(self):
        for many in (0, 21, 22, 128, 255):
            self.wrong_at(3, checked([80, 1, 0, many] + [0] * many))
        for many in (1, 20):
            self.assertEqual(decode_text(checked([80, 1, 0, many] + [25] * many)), Text.of_word("z" * many))

    def test_letters(self):
        self.assertEqual(decode_text(checked([80, 1, 0, 2, 0, 25])), Text.of_word("az"))
        for letter in (26, 27, 97, 128, 255):
            self.wrong_at(4, checked([80, 1, 0, 2, letter, 0]))
            self.wrong_at(5, checked([80, 1, 0, 2, 0, letter]))
            self.wrong_at(4, bytes([80, 1, 0, 20, letter]))

    def test_last_bytes_that_are_0(self):
        start = [80, 2, 0, 2, 0, 1]
        self.wrong_at(8, bytes(start + [1, 128, 0]))
        self.wrong_at(9, bytes(start + [1, 0, 129, 0]))
        self.wrong_at(10, bytes(start + [1, 0, 1, 129, 0]))
        self.wrong_at(12, bytes(start + [1, 0, 1, 129, 128, 128, 0]))
        # It is seen before the number is looked at.
        self.wrong_at(9, bytes(start + [1, 255, 255, 0]))
        self.assertEqual(decode_text(checked(start + [1, 0, 0, 129, 1])).steps[1], ("paste", 0, 0, 129))

    def test_places(self):
        start = [80, 2, 0, 2, 0, 1, 1]
        for first in (2, 3, 127, 128, 10 ** 18, 1 << 70):
            self.wrong_at(7, checked(start + number(first) + [1, 1]))
            self.wrong_at(7, bytes(start + number(first)))
        for last in (2, 3, 127, 128, 10 ** 18, 1 << 70):
            self.wrong_at(8, checked(start + [0] + number(last) + [1]))
            self.wrong_at(8, bytes(start + [0] + number(last)))
        self.wrong_at(8, checked(start + [1, 0, 1]))
        self.wrong_at(8, bytes(start + [1, 0]))
        self.wrong_at(3, checked([80, 1, 1, 0, 0, 1]))

    def test_times(self):
        start = [80, 2, 0, 2, 0, 1, 1, 0, 1]
        for times in (0, BILLION + 1, 1 << 32, 1 << 100):
            self.wrong_at(9, checked(start + number(times)))
            self.wrong_at(9, bytes(start + number(times)))
        self.assertEqual(decode_text(checked(start + number(BILLION))).size, 2 * BILLION + 2)

    def test_numbers_are_looked_at_one_after_another(self):
        start = [80, 2, 0, 2, 0, 1, 1]
        self.wrong_at(7, bytes(start + [2, 2, 0]))
        self.wrong_at(8, bytes(start + [1, 0, 0]))
        # A number is read to its end before it is looked at.
        self.wrong_at(9, bytes(start + [130, 130]))
        self.wrong_at(10, bytes(start + [0, 130, 130]))
        self.wrong_at(11, bytes(start + [0, 0, 130, 130]))

    def test_numbers_of_many_bytes(self):
        start = [80, 2, 0, 2, 0, 1, 1]
        for many in (8, 9, 10, 11, 100, 5000):
            for group in (128, 129, 255):
                self.wrong_at(7, bytes(start + [group] * many + [1]))
                self.wrong_at(7 + many, bytes(start + [group] * many + [0]))
                self.wrong_at(7 + many, bytes(start + [group] * many))
                self.wrong_at(8, bytes(start + [0] + [group] * many + [127, 1]))
                self.wrong_at(9, bytes(start + [0, 0] + [group] * many + [1, 7]))

    def test_too_long(self):
        values = values_of([*LARGEST, ("write", "a")])
        begin = len(values) - 3
        self.wrong_at(begin, checked(values))
        self.wrong_at(begin, bytes(values))
        self.wrong_at(begin, bytes(values + [9, 9]))
        # The step is read to its end before its size is looked at.
        self.wrong_at(len(values) - 1, bytes(values[:-1]))
        self.wrong_at(len(values) - 1, bytes(values[:-1] + [26]))
        values = values_of([*LARGEST[:2], ("paste", 0, BILLION - 1, BILLION), ("write", "a")])
        begin = len(values) - 3 - 12
        self.assertEqual(values[begin:begin + 2], [1, 0])
        self.wrong_at(begin, checked(values))
        self.wrong_at(begin, bytes(values[:-3]))
        self.wrong_at(len(values) - 4, bytes(values[:-4]))
        self.assertEqual(decode_text(encode_text(Text(*LARGEST))).size, 10 ** 18)

    def test_checksum(self):
        for steps in ((), (("write", "abc"),), (("write", "ab"), ("paste", 0, 1, 2))):
            data = encode_text(Text(*steps))
            for byte in range(256):
                if byte != data[-1]:
                    self.wrong_at(len(data) - 1, data[:-1] + bytes([byte]))
                    self.wrong_at(len(data) - 1, data[:-1] + bytes([byte, 0]))
                self.wrong_at(len(data), data + bytes([byte]))
            self.wrong_at(len(data), data + data)

    def test_missing_bytes(self):
        text = Text(("write", "abc"), ("paste", 0, 2, 300), ("paste", 500, 900, 20000), ("write", "z" * 20))
        data = encode_text(text)
        for length in range(len(data)):
            self.wrong_at(length, data[:length])
        self.assertEqual(decode_text(data), text)

    def test_changed_bytes(self):
        choice = random.Random(18)
        many = 0
        for _ in range(1500):
            steps = random_steps(choice, 6, 5000)
            values = values_of(steps)
            for _ in range(choice.randint(1, 2)):
                at = choice.randrange(len(values))
                values[at] = choice.choice([0, 1, 2, 20, 21, 25, 26, 30, 31, 127, 128, 129, 255, values[at] ^ 128])
            data = checked(values) if choice.random() < 0.8 else bytes(values)
            offset = first_invalid(data)
            if offset is None:
                many += 1
                self.assertEqual(encode_text(decode_text(data)), data)
            else:
                self.wrong_at(offset, data)
        self.assertGreater(many, 50)


if __name__ == "__main__":
    unittest.main()
