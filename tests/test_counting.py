"""Counting (points 4 and 5)."""

import random
import unittest

from plain import WRONG_LETTERS, WRONG_NUMBERS, plain_keys, plain_letters, random_steps, written_steps
from pastekeys.counting import (key_counts, letter_counts, letters_between, nth_place_of_key,
                                nth_place_of_letter, places_of_key)
from pastekeys.errors import InvalidKey, InvalidLetter, InvalidNumber, InvalidPlace
from pastekeys.texts import Text

LARGEST = Text(("write", "ab"), ("paste", 1, 1, 3), ("paste", 0, 4, 10 ** 9 - 1),
               ("paste", 0, 5 * 10 ** 9 - 1, 2 * 10 ** 8 - 1))
RANGED = [key_counts, letter_counts, letters_between]


class Ranges(unittest.TestCase):
    def test_random_ranges(self):
        source = random.Random(11)
        for _ in range(150):
            steps = random_steps(source, 12, 300)
            text, keys, letters = Text(*steps), plain_keys(steps), plain_letters(steps)
            first = source.randint(0, text.size)
            last = source.randint(first - 1, text.size - 1)
            part, word = keys[first:last + 1], letters[first:last + 1]
            self.assertEqual(key_counts(text, first, last),
                             [part.count(key) for key in range(len(text.typed_keys))])
            counts = letter_counts(text, first, last)
            self.assertEqual(list(counts.items()), [(letter, word.count(letter)) for letter in sorted(set(word))])
            self.assertEqual(letters_between(text, first, last), word)

    def test_every_range_of_a_text(self):
        steps = [("write", "ab"), ("paste", 1, 1, 2), ("paste", 0, 2, 2), ("write", "c"), ("paste", 2, 10, 1)]
        text, keys = Text(*steps), plain_keys(steps)
        for first in range(text.size + 1):
            for last in range(first - 1, text.size):
                part = keys[first:last + 1]
                self.assertEqual(key_counts(text, first, last), [part.count(key) for key in range(3)])

    def test_empty_ranges(self):
        text = Text(("write", "abc"), ("paste", 1, 2, 2))
        for first in (0, 3, 7):
            self.assertEqual(key_counts(text, first, first - 1), [0, 0, 0])
            self.assertEqual(letter_counts(text, first, first - 1), {})
            self.assertEqual(letters_between(text, first, first - 1), "")
        self.assertEqual([call(Text(), 0, -1) for call in RANGED], [[], {}, ""])
        self.assertEqual([call(LARGEST, 10 ** 18, 10 ** 18 - 1) for call in RANGED], [[0, 0], {}, ""])

    def test_one_letter(self):
        text = Text.of_word("q")
        self.assertEqual([call(text, 0, 0) for call in RANGED], [[1], {"q": 1}, "q"])

    def test_ranges_that_do_not_exist(self):
        text = Text(("write", "abc"), ("paste", 1, 2, 2))
        wrong = [(-1, 3), (-1, -2), (-1, -1), (0, -2), (3, 1), (0, 7), (7, 7), (8, 7), (8, 8), (7, 5), (2, 10 ** 18)]
        wrong.extend((number, 3) for number in WRONG_NUMBERS)
        wrong.extend((0, number) for number in WRONG_NUMBERS)
        for call in RANGED:
            for first, last in wrong:
                with self.assertRaises(InvalidPlace):
                    call(text, first, last)
            for first, last in [(0, 0), (1, 0), (-1, -2), (0, 1)]:
                with self.assertRaises(InvalidPlace):
                    call(Text(), first, last)

    def test_a_letter_that_is_retyped_away(self):
        text = Text(("write", "ab"), ("paste", 0, 1, 5)).retyped(0, "b")
        self.assertEqual(letter_counts(text, 0, 11), {"b": 12})

    def test_order_of_letters(self):
        text = Text(("write", "zya"), ("paste", 0, 1, 3), ("write", "ma"))
        self.assertEqual(list(letter_counts(text, 0, text.size - 1).items()),
                         [("a", 2), ("m", 1), ("y", 4), ("z", 4)])


class LongTexts(unittest.TestCase):
    def test_counts(self):
        self.assertEqual(LARGEST.size, 10 ** 18)
        self.assertEqual(key_counts(LARGEST, 0, 10 ** 18 - 1), [2 * 10 ** 17, 8 * 10 ** 17])
        self.assertEqual(key_counts(LARGEST, 10 ** 9 + 1, 10 ** 17),
                         [2 * 10 ** 16 - 2 * 10 ** 8, 8 * (10 ** 16 - 10 ** 8)])
        self.assertEqual(letter_counts(LARGEST, 10 ** 18 - 4, 10 ** 18 - 1), {"b": 4})

    def test_at_most_1000_letters(self):
        self.assertEqual(letters_between(LARGEST, 10 ** 17, 10 ** 17 + 999), "abbbb" * 200)
        for last in (1000, 10 ** 18 - 1):
            with self.assertRaises(InvalidNumber):
                letters_between(LARGEST, 0, last)
        for first, last in [(0, 10 ** 18), (-1, 2000)]:
            with self.assertRaises(InvalidPlace):
                letters_between(LARGEST, first, last)

    def test_nested_pastes(self):
        steps, size = [("write", "abc")], 3
        source = random.Random(13)
        while len(steps) < 30:
            first = source.randrange(size)
            last = source.randrange(first, size)
            times = source.randint(1, 6)
            if size + (last - first + 1) * times <= 10 ** 18:
                steps.append(("paste", first, last, times))
                size += (last - first + 1) * times
        text = Text(*steps)
        for _ in range(30):
            cut = source.randrange(size)
            before, after = key_counts(text, 0, cut - 1), key_counts(text, cut, size - 1)
            whole = key_counts(text, 0, size - 1)
            self.assertEqual([one + other for one, other in zip(before, after)], whole)
            key = text(cut)
            self.assertEqual(nth_place_of_key(text, key, before[key]), cut)
            self.assertEqual(next(places_of_key(text, key, cut)), cut)
            part = [text(place) for place in range(cut, min(size, cut + 20))]
            self.assertEqual(key_counts(text, cut, min(size, cut + 20) - 1), [part.count(one) for one in range(3)])


class SameLetters(unittest.TestCase):
    def test_with_and_without_pasting(self):
        source = random.Random(17)
        for _ in range(40):
            steps = random_steps(source, 10, 600)
            text, written = Text(*steps), Text(*written_steps(plain_letters(steps)))
            self.assertEqual(text.size, written.size)
            first = source.randint(0, text.size)
            last = source.randint(first - 1, text.size - 1)
            for call in (letter_counts, letters_between):
                self.assertEqual(call(text, first, last), call(written, first, last))
            for letter in "abcd":
                for number in (0, 1, 5, 100, 600):
                    self.assertEqual(nth_place_of_letter(text, letter, number),
                                     nth_place_of_letter(written, letter, number))


class NthPlaces(unittest.TestCase):
    def test_random_texts(self):
        source = random.Random(19)
        for _ in range(60):
            steps = random_steps(source, 10, 120)
            text, keys, letters = Text(*steps), plain_keys(steps), plain_letters(steps)
            for key in range(len(text.typed_keys)):
                places = [place for place in range(text.size) if keys[place] == key]
                found = [nth_place_of_key(text, key, number) for number in range(len(places) + 2)]
                self.assertEqual(found, places + [None, None])
            for letter in "abcx":
                places = [place for place in range(text.size) if letters[place] == letter]
                found = [nth_place_of_letter(text, letter, number) for number in range(len(places) + 2)]
                self.assertEqual(found, places + [None, None])

    def test_large_numbers(self):
        self.assertEqual(nth_place_of_key(LARGEST, 0, 2 * 10 ** 17 - 1), 10 ** 18 - 5)
        self.assertIsNone(nth_place_of_key(LARGEST, 0, 2 * 10 ** 17))
        self.assertEqual(nth_place_of_letter(LARGEST, "b", 8 * 10 ** 17 - 1), 10 ** 18 - 1)
        self.assertEqual(nth_place_of_letter(LARGEST, "b", 4 * 10 ** 12 + 1), 5 * 10 ** 12 + 2)
        same = Text.of_word("a") * 10 ** 9 * 10 ** 9
        self.assertEqual(nth_place_of_letter(same, "a", 10 ** 18 - 1), 10 ** 18 - 1)
        self.assertIsNone(nth_place_of_letter(same, "a", 10 ** 18))
        self.assertIsNone(nth_place_of_key(same, 0, 10 ** 18))

    def test_letters_that_do_not_stand_there(self):
        self.assertIsNone(nth_place_of_letter(LARGEST, "z", 0))
        self.assertIsNone(nth_place_of_letter(Text(), "a", 0))

    def test_errors(self):
        text = Text(("write", "abc"), ("paste", 1, 2, 2))
        for key in [-1, 3, 10 ** 18] + WRONG_NUMBERS:
            for number in (0, -1, None):
                with self.assertRaises(InvalidKey):
                    nth_place_of_key(text, key, number)
        for letter in WRONG_LETTERS:
            for number in (0, -1, None):
                with self.assertRaises(InvalidLetter):
                    nth_place_of_letter(text, letter, number)
        for number in [-1, 10 ** 18 + 1] + WRONG_NUMBERS:
            with self.assertRaises(InvalidNumber):
                nth_place_of_key(text, 0, number)
            with self.assertRaises(InvalidNumber):
                nth_place_of_letter(text, "z", number)
        with self.assertRaises(InvalidKey):
            nth_place_of_key(Text(), 0, 0)


class PlacesOfKeys(unittest.TestCase):
    def test_random_texts(self):
        source = random.Random(23)
        for _ in range(60):
            steps = random_steps(source, 10, 90)
            text, keys = Text(*steps), plain_keys(steps)
            for key in range(len(text.typed_keys)):
                first = source.randint(0, text.size)
                places = [place for place in range(first, text.size) if keys[place] == key]
                self.assertEqual(list(places_of_key(text, key, first)), places)

    def test_at_most_100(self):
        for times, many in [(98, 99), (99, 100), (100, 100), (10 ** 9, 100)]:
            text = Text(("write", "ab"), ("paste", 0, 1, times))
            self.assertEqual(list(places_of_key(text, 1, 0)), [2 * number + 1 for number in range(many)])
        self.assertEqual(list(places_of_key(LARGEST, 0, 10 ** 17 + 1)),
                         [10 ** 17 + 5 * number for number in range(1, 101)])
        self.assertEqual(list(places_of_key(LARGEST, 0, 10 ** 18 - 10)), [10 ** 18 - 10, 10 ** 18 - 5])

    def test_first_places(self):
        text = Text(("write", "abc"), ("paste", 1, 2, 2))
        found = [list(places_of_key(text, 1, first)) for first in range(8)]
        self.assertEqual(found, [[1, 3, 5], [1, 3, 5], [3, 5], [3, 5], [5], [5], [], []])

    def test_errors_come_with_the_first_value(self):
        text = Text(("write", "abc"), ("paste", 1, 2, 2))
        for key in [-1, 3] + WRONG_NUMBERS:
            for first in (0, 8, None):
                places = places_of_key(text, key, first)
                with self.assertRaises(InvalidKey):
                    next(places)
        for first in [-1, 8, 10 ** 18] + WRONG_NUMBERS:
            places = places_of_key(text, 0, first)
            with self.assertRaises(InvalidPlace):
                next(places)
        with self.assertRaises(InvalidKey):
            next(places_of_key(Text(), 0, 0))


if __name__ == "__main__":
    unittest.main()
