"""The examples of the interface."""

import unittest

from pastekeys.counting import (key_counts, letter_counts, letters_between, nth_place_of_key,
                                nth_place_of_letter, places_of_key)
from pastekeys.errors import InvalidChanges, InvalidKey, InvalidNumber, InvalidPlace, InvalidStep
from pastekeys.texts import Text
from pastekeys.ties import (cheapest_period, equal_classes, fewest_for_equal, fewest_for_mirror,
                            fewest_for_period, first_unlike_tie, mirror_classes, period_classes,
                            retyped_by, tie_pattern)


class TextExamples(unittest.TestCase):
    def setUp(self):
        self.text = Text(("write", "abc"), ("paste", 1, 2, 2))

    def test_a_text(self):
        text = self.text
        self.assertEqual([text.size, text.typed_keys, text(3), text[6]], [7, "abc", 1, "c"])

    def test_a_wrong_step(self):
        with self.assertRaises(InvalidStep) as caught:
            Text(("write", "abc"), ("paste", 1, 3, 2))
        self.assertEqual(caught.exception.index, 1)

    def test_a_wrong_place(self):
        with self.assertRaises(InvalidPlace):
            self.text[7]

    def test_signs(self):
        text = self.text
        self.assertEqual(
            [(text + text).steps, (text * 3).size, "b" in text, text == Text(("write", "abc"))],
            [(("write", "abc"), ("paste", 1, 2, 2), ("write", "abc"), ("paste", 8, 9, 2)),
             21, True, False])

    def test_retyped(self):
        self.assertEqual(letters_between(self.text.retyped(1, "x"), 0, 6), "axcxcxc")
        with self.assertRaises(InvalidKey):
            Text.of_word("abc").retyped(3, "x")


class CountingExamples(unittest.TestCase):
    def setUp(self):
        self.text = Text(("write", "abc"), ("paste", 1, 2, 2))

    def test_counts(self):
        self.assertEqual([key_counts(self.text, 0, 6), letter_counts(self.text, 2, 5)],
                         [[1, 3, 3], {"b": 2, "c": 2}])

    def test_a_long_text(self):
        text = Text.of_word("ab") * 10 ** 9 * 10 ** 8
        self.assertEqual(letter_counts(text, 1, 10 ** 17),
                         {"a": 50000000000000000, "b": 50000000000000000})

    def test_a_wrong_range(self):
        with self.assertRaises(InvalidPlace):
            key_counts(self.text, 3, 1)

    def test_places(self):
        text = self.text
        self.assertEqual([nth_place_of_key(text, 1, 2), nth_place_of_key(text, 0, 1),
                          nth_place_of_letter(text, "c", 0)], [5, None, 2])
        self.assertEqual(list(places_of_key(text, 2, 3)), [4, 6])


class TiesExamples(unittest.TestCase):
    def setUp(self):
        self.text = Text(("write", "abc"), ("paste", 1, 2, 2))

    def test_equal(self):
        one, other = Text(("write", "ab"), ("paste", 0, 0, 1)), Text.of_word("xbx")
        self.assertEqual([equal_classes(one, other), fewest_for_equal(one, other)],
                         [[[0, 2, 4], [1, 3]], [(0, "x")]])
        self.assertIsNone(fewest_for_equal(Text.of_word("ab"), Text.of_word("a")))

    def test_mirror_and_period(self):
        text = self.text
        self.assertEqual([mirror_classes(text), fewest_for_mirror(text),
                          period_classes(text, 3), fewest_for_period(text, 2)],
                         [[[0, 2], [1]], [(2, "a")], [[0, 1, 2]], [(2, "a")]])
        with self.assertRaises(InvalidNumber):
            fewest_for_period(Text.of_word("ab"), 3)

    def test_cheapest_period(self):
        self.assertEqual([cheapest_period(self.text), cheapest_period(Text())], [(2, 1), None])

    def test_retyped_by(self):
        word = Text.of_word("abc")
        self.assertEqual(retyped_by(word, [(0, "x"), (2, "a")]).typed_keys, "xba")
        with self.assertRaises(InvalidChanges) as caught:
            retyped_by(word, [(0, "x"), (3, "a")])
        self.assertEqual(caught.exception.index, 1)

    def test_patterns(self):
        self.assertEqual([tie_pattern(self.text), first_unlike_tie(self.text, Text.of_word("abcb"))],
                         [[0, 1, 2, 1, 2, 1, 2], 3])


if __name__ == "__main__":
    unittest.main()
