"""Texts (points 2 and 3)."""

import random
import unittest

from plain import WRONG_LETTERS, WRONG_NUMBERS, plain_keys, plain_letters, random_steps
from pastekeys.errors import (InvalidKey, InvalidLetter, InvalidNumber, InvalidPlace, InvalidStep,
                              TextError, TooLong)
from pastekeys.texts import Text

NO_STEPS = [
    None, True, 0, 1, "", "write", (), [], {}, ("write",), ("paste",), ("write", "a", "b"),
    ["write", "a"], ["paste", 0, 0, 1], ("Write", "a"), ("type", "a"), (None, "a"), ("a",), "ab",
    ("write", ""), ("write", "a" * 21), ("write", "aB"), ("write", "a b"), ("write", "a1"),
    ("write", "\u00e4"), ("write", "a\n"), ("write", None), ("write", 1), ("write", True),
    ("write", ["a"]), ("write", ("a",)), ("write", b"a"), (("write", "a"),),
    ("paste", 0, 0), ("paste", 0, 0, 1, 1), ("Paste", 0, 0, 1), ("write", 0, 0, 1), ("paste", "a"),
    ("paste", -1, 0, 1), ("paste", 0, -1, 1), ("paste", 1, 0, 1), ("paste", 2, 1, 1),
    ("paste", 0, 3, 1), ("paste", 3, 3, 1), ("paste", 3, 2, 1),
    ("paste", 0, 0, 0), ("paste", 0, 0, -1), ("paste", 0, 0, 10 ** 9 + 1),
]
for _wrong in WRONG_NUMBERS:
    NO_STEPS.extend([("paste", _wrong, 2, 1), ("paste", 0, _wrong, 1), ("paste", 0, 0, _wrong)])

# 10 ** 18 letters: 1, then 10 ** 9, then 10 ** 18 in all.
LARGEST = (("write", "a"), ("paste", 0, 0, 10 ** 9 - 1), ("paste", 0, 10 ** 9 - 1, 10 ** 9 - 1))


class Case(unittest.TestCase):
    def fails_at(self, index, *steps):
        for make in (lambda: Text(*steps), lambda: Text.of_steps(list(steps))):
            with self.assertRaises(InvalidStep) as caught:
                make()
            self.assertEqual(caught.exception.index, index, steps)


class Steps(Case):
    def test_no_steps(self):
        text = Text()
        self.assertEqual((text.steps, text.typed_keys, text.size), ((), "", 0))

    def test_properties(self):
        steps = (("write", "ab"), ("paste", 0, 1, 3), ("write", "ca"), ("paste", 7, 9, 1))
        text = Text(*steps)
        self.assertEqual((text.steps, text.typed_keys, text.size), (steps, "abca", 13))
        self.assertIsInstance(text.steps, tuple)

    def test_wrong_steps_at_any_place(self):
        good = [("write", "abc")] + [("paste", 0, 0, 1), ("write", "z")] * 4
        for wrong in NO_STEPS:
            self.fails_at(1, ("write", "abc"), wrong)
            self.fails_at(1, ("write", "abc"), wrong, wrong, ("write", "a"))
        for wrong in [None, ["write", "a"], ("write", "A"), ("paste", 0, 99, 1), ("paste", 0, 0, True)]:
            for index in range(len(good) + 1):
                self.fails_at(index, *good[:index], wrong, *good[index:])

    def test_first_wrong_step(self):
        self.fails_at(0, ("paste", 0, 0, 1))
        self.fails_at(0, ("write", ""), None)
        self.fails_at(1, ("write", "a"), ("paste", 0, 1, 1), None)
        self.fails_at(2, ("write", "a"), ("paste", 0, 0, 2), ("paste", 0, 3, 1), ("write", "A"))

    def test_places_exist_only_then(self):
        self.assertEqual(Text(("write", "a"), ("paste", 0, 0, 2), ("paste", 0, 2, 1)).size, 6)
        self.fails_at(1, ("write", "a"), ("paste", 0, 2, 1), ("write", "bc"))

    def test_lengths_of_words(self):
        for length in (1, 2, 19, 20):
            self.assertEqual(Text(("write", "z" * length)).size, length)
        for length in (0, 21, 100):
            self.fails_at(0, ("write", "z" * length))

    def test_all_letters(self):
        text = Text(("write", "abcdefghijklm"), ("write", "nopqrstuvwxyz"))
        self.assertEqual(text.typed_keys, "abcdefghijklmnopqrstuvwxyz")

    def test_numbers_of_times(self):
        for times in (1, 2, 10 ** 9):
            self.assertEqual(Text(("write", "ab"), ("paste", 1, 1, times)).size, 2 + times)
        for times in (0, 10 ** 9 + 1, -1):
            self.fails_at(1, ("write", "ab"), ("paste", 1, 1, times))

    def test_number_of_steps(self):
        steps = [("write", "a")] * 30
        self.assertEqual(Text(*steps).size, 30)
        self.fails_at(30, *steps, ("write", "a"))
        self.fails_at(30, *steps, None, None)
        self.fails_at(7, *steps[:7], None, *steps)

    def test_largest_text(self):
        self.assertEqual(Text.MAX_SIZE, 10 ** 18)
        text = Text(*LARGEST)
        self.assertEqual((text.size, text.MAX_SIZE), (10 ** 18, 10 ** 18))
        for more in (("write", "a"), ("paste", 0, 0, 1), ("paste", 0, 10 ** 18 - 1, 10 ** 9)):
            with self.assertRaises(TooLong):
                Text(*LARGEST, more)
            with self.assertRaises(TooLong):
                Text.of_steps([*LARGEST, more])

    def test_step_by_step(self):
        with self.assertRaises(TooLong):
            Text(*LARGEST, ("write", "a"), None)
        with self.assertRaises(TooLong):
            Text(*LARGEST, *[("write", "a")] * 40)
        self.fails_at(3, *LARGEST, None, ("write", "a"))
        self.fails_at(3, *LARGEST, ("paste", 0, 10 ** 18, 1))
        # The 31st step is wrong before it is too long.
        self.fails_at(30, *[("write", "a")] * 27, ("paste", 0, 0, 10 ** 9),
                      ("paste", 0, 10 ** 9 - 1, 10 ** 9 - 2), ("paste", 0, 0, 1), ("paste", 0, 10 ** 9, 10 ** 9))

    def test_of_word(self):
        self.assertEqual(Text.of_word("abc"), Text(("write", "abc")))
        self.assertEqual(Text.of_word("z" * 20).size, 20)
        for wrong in ["", "a" * 21, "A", "a b", "\u00e4", None, True, 5, ("a",), ["a"], ()]:
            with self.assertRaises(InvalidStep) as caught:
                Text.of_word(wrong)
            self.assertEqual(caught.exception.index, 0)

    def test_of_steps(self):
        steps = [("write", "ab"), ("paste", 0, 1, 2)]
        text = Text.of_steps(steps)
        self.assertEqual(text, Text(*steps))
        self.assertEqual(Text.of_steps([]), Text())
        steps.append(("write", "c"))
        self.assertEqual(text.steps, (("write", "ab"), ("paste", 0, 1, 2)))
        for wrong in (None, True, 3, "ab", ("write", "ab")):
            with self.assertRaises(InvalidStep) as caught:
                Text.of_steps(wrong)
            self.assertEqual(caught.exception.index, 0)

    def test_properties_stay(self):
        text = Text.of_word("ab")
        for name in ("steps", "typed_keys", "size"):
            with self.assertRaises(AttributeError):
                setattr(text, name, 0)


class KeysAndLetters(Case):
    def test_random_texts(self):
        source = random.Random(3)
        for _ in range(150):
            steps = random_steps(source, 12, 300)
            text = Text(*steps)
            self.assertEqual([text(place) for place in range(text.size)], plain_keys(steps))
            self.assertEqual("".join(text[place] for place in range(text.size)), plain_letters(steps))

    def test_long_texts(self):
        text = Text.of_word("abcde") * 10 ** 9 * (2 * 10 ** 8)
        self.assertEqual(text.size, 10 ** 18)
        for place in (0, 4, 5, 10 ** 9 + 3, 5 * 10 ** 9 - 1, 5 * 10 ** 9, 10 ** 18 - 1):
            self.assertEqual((text(place), text[place]), (place % 5, "abcde"[place % 5]))

    def test_many_nested_pastes(self):
        # Each step pastes all but the first letter: b, c, b, c and so on.
        text, more = Text.of_word("abc"), []
        while text.size < 2 * 10 ** 17:
            more.append(("paste", 1, text.size - 1, 3))
            text = Text(("write", "abc"), *more)
        self.assertEqual(len(text.steps), 30)
        self.assertEqual((text(0), text[0]), (0, "a"))
        for place in range(1, text.size, text.size // 997):
            self.assertEqual((text(place), text[place]), (2 - place % 2, "cb"[place % 2]))

    def test_wrong_places(self):
        text = Text(("write", "abc"), ("paste", 1, 2, 2))
        for place in [-1, 7, 8, 10 ** 18, -7] + WRONG_NUMBERS:
            with self.assertRaises(InvalidPlace):
                text(place)
            with self.assertRaises(InvalidPlace):
                text[place]
        with self.assertRaises(InvalidPlace):
            text[0:2]
        for place in (0, -1):
            with self.assertRaises(InvalidPlace):
                Text()(place)
            with self.assertRaises(InvalidPlace):
                Text()[place]

    def test_letters_in_texts(self):
        text = Text(("write", "abc"), ("paste", 1, 2, 2))
        self.assertEqual([letter in text for letter in "abcdz"], [True, True, True, False, False])
        for wrong in WRONG_LETTERS + ["abc", "bc"]:
            self.assertIs(wrong in text, False)
        self.assertIs("a" in Text(), False)
        self.assertIs("" in Text(), False)

    def test_no_loops(self):
        for text in (Text(), Text.of_word("ab")):
            with self.assertRaises(TypeError):
                for _ in text:
                    pass
            for walk in (list, tuple, iter, set, sorted, reversed, "".join):
                with self.assertRaises(TypeError):
                    walk(text)


class Equality(Case):
    def test_equal_steps(self):
        steps = (("write", "ab"), ("paste", 0, 1, 2))
        self.assertTrue(Text(*steps) == Text(*steps))
        self.assertFalse(Text(*steps) != Text(*steps))
        self.assertTrue(Text() == Text())

    def test_same_letters_by_other_steps(self):
        self.assertFalse(Text.of_word("aa") == Text(("write", "a"), ("paste", 0, 0, 1)))
        self.assertFalse(Text.of_word("ab") == Text(("write", "a"), ("write", "b")))
        self.assertTrue(Text.of_word("ab") != Text.of_word("ac"))

    def test_other_things(self):
        for other in [(), (("write", "ab"),), "ab", None, 0, False, [], "write ab"]:
            self.assertFalse(Text() == other)
            self.assertFalse(Text.of_word("ab") == other)
            self.assertTrue(Text.of_word("ab") != other)


class Sums(Case):
    def test_random_sums(self):
        source = random.Random(5)
        for _ in range(60):
            first, second, third = [random_steps(source, 8, 80) for _ in range(3)]
            one, two, three = Text(*first), Text(*second), Text(*third)
            both = one + two
            self.assertEqual("".join(both[place] for place in range(both.size)),
                             plain_letters(first) + plain_letters(second))
            self.assertEqual(both.typed_keys, one.typed_keys + two.typed_keys)
            self.assertEqual((one + two) + three, one + (two + three))
            self.assertEqual((one.steps, two.steps), (tuple(first), tuple(second)))

    def test_empty_texts(self):
        text = Text(("write", "ab"), ("paste", 1, 1, 4))
        self.assertEqual(text + Text(), text)
        self.assertEqual(Text() + text, text)
        self.assertEqual(Text() + Text(), Text())

    def test_too_many_steps(self):
        many = Text(*[("write", "a")] * 20)
        self.assertEqual((many + Text(*[("write", "b")] * 10)).size, 30)
        with self.assertRaises(InvalidStep) as caught:
            many + many
        self.assertEqual(caught.exception.index, 30)

    def test_too_long(self):
        large = Text(*LARGEST)
        self.assertEqual((large + Text()).size, 10 ** 18)
        with self.assertRaises(TooLong):
            large + Text.of_word("a")
        with self.assertRaises(TooLong):
            large + Text(*[("write", "a")] * 30)

    def test_other_things(self):
        for other in (None, 1, "a", (), [("write", "a")]):
            with self.assertRaises(TypeError):
                Text.of_word("a") + other


class Multiples(Case):
    def test_letters(self):
        text = Text(("write", "abc"), ("paste", 1, 2, 2))
        for times in range(1, 6):
            many = text * times
            self.assertEqual("".join(many[place] for place in range(many.size)), "abcbcbc" * times)
            self.assertEqual(many.typed_keys, "abc")

    def test_steps(self):
        text = Text.of_word("ab")
        self.assertEqual((text * 2).steps, (("write", "ab"), ("paste", 0, 1, 1)))
        self.assertEqual((text * 10 ** 9).steps, (("write", "ab"), ("paste", 0, 1, 10 ** 9 - 1)))
        self.assertEqual((text * 10 ** 9).size, 2 * 10 ** 9)

    def test_once_and_empty(self):
        text = Text(*[("write", "a")] * 30)
        self.assertEqual(text * 1, text)
        self.assertEqual(Text(*LARGEST) * 1, Text(*LARGEST))
        for times in (1, 2, 10 ** 9):
            self.assertEqual(Text() * times, Text())

    def test_wrong_numbers(self):
        for times in [0, -1, 10 ** 9 + 1, 10 ** 18] + WRONG_NUMBERS:
            for text in (Text(), Text.of_word("ab"), Text(*[("write", "a")] * 30), Text(*LARGEST)):
                with self.assertRaises(InvalidNumber):
                    text * times

    def test_steps_that_result(self):
        with self.assertRaises(InvalidStep) as caught:
            Text(*[("write", "a")] * 30) * 2
        self.assertEqual(caught.exception.index, 30)
        with self.assertRaises(TooLong):
            Text(*LARGEST) * 2
        self.assertEqual((Text.of_word("a") * 10 ** 9 * 10 ** 9).size, 10 ** 18)
        with self.assertRaises(TooLong):
            Text.of_word("ab") * 10 ** 9 * (5 * 10 ** 8 + 1)


class Retyped(Case):
    def test_random_keys(self):
        source = random.Random(7)
        for _ in range(60):
            steps = [("write", "ab")] + [("write", "cab")] + random_steps(source, 3, 9)
            text = Text(*steps)
            key = source.randrange(len(text.typed_keys))
            after = text.retyped(key, "x")
            expected = ["x" if text(place) == key else text[place] for place in range(text.size)]
            self.assertEqual([after[place] for place in range(after.size)], expected)
            self.assertEqual(tuple(steps), text.steps)

    def test_steps(self):
        text = Text(("write", "ab"), ("paste", 0, 1, 9), ("write", "cd"))
        self.assertEqual(text.retyped(2, "z").steps, (("write", "ab"), ("paste", 0, 1, 9), ("write", "zd")))
        self.assertEqual(text.retyped(1, "z").typed_keys, "azcd")
        self.assertEqual(text.retyped(0, "a"), text)

    def test_all_places_of_a_large_text(self):
        text = Text(*LARGEST).retyped(0, "q")
        self.assertEqual([text[0], text[10 ** 18 - 1], text.size, "a" in text], ["q", "q", 10 ** 18, False])

    def test_wrong_keys_and_letters(self):
        text = Text(("write", "abc"), ("paste", 1, 2, 2))
        for key in [-1, 3, 10 ** 18] + WRONG_NUMBERS:
            with self.assertRaises(InvalidKey):
                text.retyped(key, "a")
            with self.assertRaises(InvalidKey):
                text.retyped(key, "A")
        for letter in WRONG_LETTERS:
            with self.assertRaises(InvalidLetter):
                text.retyped(0, letter)
        with self.assertRaises(InvalidKey):
            Text().retyped(0, "a")

    def test_errors_have_one_base(self):
        with self.assertRaises(TextError):
            Text().retyped(0, "a")


if __name__ == "__main__":
    unittest.main()
