"""Ties (points 6, 7, 8 and 9)."""

import itertools
import random
import unittest

from plain import WRONG_LETTERS, WRONG_NUMBERS, plain_keys, plain_letters, random_steps
from pastekeys.errors import InvalidChanges, InvalidNumber, TooLong
from pastekeys.texts import Text
from pastekeys.ties import (cheapest_period, equal_classes, fewest_for_equal, fewest_for_mirror,
                            fewest_for_period, first_unlike_tie, mirror_classes, period_classes,
                            retyped_by, tie_pattern)


def long_text(size):
    return Text(("write", "ab"), ("paste", 0, 0, size - 2))


def plain_classes(many, pairs):
    """The classes of keys, found by joining lists until no pair is left."""
    classes = [[key] for key in range(many)]
    for one, other in pairs:
        joined = sorted({key for group in classes if one in group or other in group for key in group})
        classes = [group for group in classes if one not in group and other not in group] + [joined]
    return sorted(classes)


def plain_changes(letters, classes):
    changes = []
    for group in classes:
        found = [letters[key] for key in group]
        most = max(found.count(letter) for letter in found)
        best = min(letter for letter in found if found.count(letter) == most)
        changes.extend((key, best) for key in group if letters[key] != best)
    return sorted(changes)


def fewest_by_trying(letters, holds):
    """How many changes are needed at least, found by trying all letters for all keys."""
    alphabet = sorted(set(letters)) or ["a"]
    return min(sum(one != other for one, other in zip(letters, tried))
               for tried in itertools.product(alphabet, repeat=len(letters)) if holds(tried))


class Equal(unittest.TestCase):
    def test_random_texts(self):
        source = random.Random(29)
        found = 0
        while found < 60:
            steps, others = random_steps(source, 6, 14), random_steps(source, 6, 14)
            keys, other_keys = plain_keys(steps), plain_keys(others)
            text, other = Text(*steps), Text(*others)
            if len(keys) != len(other_keys):
                self.assertIsNone(equal_classes(text, other))
                self.assertIsNone(fewest_for_equal(text, other))
                continue
            found += 1
            many, letters = len(text.typed_keys), text.typed_keys + other.typed_keys
            classes = plain_classes(len(letters), [(key, many + own) for key, own in zip(keys, other_keys)])
            self.assertEqual(equal_classes(text, other), classes)
            self.assertEqual(fewest_for_equal(text, other), plain_changes(letters, classes))

    def test_the_changes_make_them_equal(self):
        source = random.Random(31)
        for _ in range(40):
            text = Text(*[("write", "cab"), ("paste", 0, 2, 2)] + random_steps(source, 8, 100))
            other = Text(("write", "abc"), ("paste", 0, 1, 2), ("paste", 0, 0, text.size - 7))
            many = len(text.typed_keys)
            changes = fewest_for_equal(text, other)
            one = retyped_by(text, [change for change in changes if change[0] < many])
            two = retyped_by(other, [(key - many, letter) for key, letter in changes if key >= many])
            self.assertEqual(plain_letters(one.steps), plain_letters(two.steps))

    def test_no_fewer_suffice(self):
        for one, other in [("abc", "cab"), ("aab", "abb"), ("abca", "cccc")]:
            text, second = Text.of_word(one), Text(("write", other[0]), ("paste", 0, 0, 1), ("write", other[2:]))
            keys = plain_keys(text.steps), plain_keys(second.steps)
            letters = text.typed_keys + second.typed_keys

            def holds(tried):
                own, others = tried[:text.size], tried[text.size:]
                return [own[key] for key in keys[0]] == [others[key] for key in keys[1]]

            self.assertEqual(len(fewest_for_equal(text, second)), fewest_by_trying(letters, holds))

    def test_edges(self):
        empty, one = Text(), Text.of_word("b")
        self.assertEqual([equal_classes(empty, empty), fewest_for_equal(empty, empty)], [[], []])
        self.assertEqual([equal_classes(one, one), fewest_for_equal(one, one)], [[[0, 1]], []])
        self.assertEqual(fewest_for_equal(one, Text.of_word("a")), [(0, "a")])
        self.assertEqual(fewest_for_equal(Text.of_word("a"), one), [(1, "a")])
        for call in (equal_classes, fewest_for_equal):
            self.assertIsNone(call(empty, one))
            self.assertIsNone(call(one, empty))

    def test_too_long(self):
        fits, too_long = long_text(2000), long_text(2001)
        self.assertEqual(equal_classes(fits, fits), [[0, 2], [1, 3]])
        for call in (equal_classes, fewest_for_equal):
            for pair in [(fits, too_long), (too_long, fits), (too_long, too_long), (Text(), too_long),
                         (too_long, Text())]:
                with self.assertRaises(TooLong):
                    call(*pair)


class Mirror(unittest.TestCase):
    def test_random_texts(self):
        source = random.Random(37)
        for _ in range(80):
            steps = random_steps(source, 6, 25)
            text, keys = Text(*steps), plain_keys(steps)
            classes = plain_classes(len(text.typed_keys), list(zip(keys, reversed(keys))))
            self.assertEqual(mirror_classes(text), classes)
            changes = fewest_for_mirror(text)
            self.assertEqual(changes, plain_changes(text.typed_keys, classes))
            after = plain_letters(retyped_by(text, changes).steps)
            self.assertEqual(after, after[::-1])

    def test_no_fewer_suffice(self):
        source = random.Random(41)
        for _ in range(40):
            steps = random_steps(source, 3, 12)
            text, keys = Text(*steps), plain_keys(steps)
            if len(text.typed_keys) > 6:
                continue
            fewest = fewest_by_trying(text.typed_keys, lambda tried: all(
                tried[key] == tried[other] for key, other in zip(keys, reversed(keys))))
            self.assertEqual(len(fewest_for_mirror(text)), fewest)

    def test_edges(self):
        self.assertEqual([mirror_classes(Text()), fewest_for_mirror(Text())], [[], []])
        one = Text.of_word("b")
        self.assertEqual([mirror_classes(one), fewest_for_mirror(one)], [[[0]], []])
        self.assertEqual(mirror_classes(Text.of_word("abcd")), [[0, 3], [1, 2]])
        self.assertEqual(fewest_for_mirror(Text.of_word("dcab")), [(0, "b"), (1, "a")])

    def test_too_long(self):
        self.assertEqual(mirror_classes(long_text(2000)), [[0, 1]])
        for call in (mirror_classes, fewest_for_mirror):
            with self.assertRaises(TooLong):
                call(long_text(2001))


class Periods(unittest.TestCase):
    def test_random_texts(self):
        source = random.Random(43)
        for _ in range(40):
            steps = random_steps(source, 6, 25)
            text, keys = Text(*steps), plain_keys(steps)
            for period in range(1, text.size + 1):
                classes = plain_classes(len(text.typed_keys), list(zip(keys, keys[period:])))
                self.assertEqual(period_classes(text, period), classes)
                changes = fewest_for_period(text, period)
                self.assertEqual(changes, plain_changes(text.typed_keys, classes))
                after = plain_letters(retyped_by(text, changes).steps)
                self.assertEqual(after[period:], after[:len(after) - period])

    def test_no_fewer_suffice(self):
        steps = [("write", "abca"), ("paste", 1, 2, 2), ("write", "b")]
        text, keys = Text(*steps), plain_keys(steps)
        for period in range(1, text.size + 1):
            fewest = fewest_by_trying(text.typed_keys, lambda tried: all(
                tried[key] == tried[other] for key, other in zip(keys, keys[period:])))
            self.assertEqual(len(fewest_for_period(text, period)), fewest)

    def test_the_first_letter_of_several(self):
        self.assertEqual(fewest_for_period(Text.of_word("cbabca"), 1),
                         [(0, "a"), (1, "a"), (3, "a"), (4, "a")])
        self.assertEqual(fewest_for_period(Text.of_word("cbabc"), 1), [(0, "b"), (2, "b"), (4, "b")])

    def test_edges(self):
        self.assertEqual([period_classes(Text(), 1), fewest_for_period(Text(), 1)], [[], []])
        one = Text.of_word("b")
        self.assertEqual([period_classes(one, 1), fewest_for_period(one, 1)], [[[0]], []])
        self.assertEqual(period_classes(Text.of_word("abc"), 3), [[0], [1], [2]])
        self.assertEqual(period_classes(Text.of_word("abc"), 2), [[0, 2], [1]])

    def test_errors(self):
        text = Text.of_word("abc")
        for call in (period_classes, fewest_for_period):
            for period in [0, -1, 4, 10 ** 18] + WRONG_NUMBERS:
                with self.assertRaises(InvalidNumber):
                    call(text, period)
            for period in (0, 2, None):
                with self.assertRaises(InvalidNumber):
                    call(Text(), period)
            for period in (1, 0, 2002, None):
                with self.assertRaises(TooLong):
                    call(long_text(2001), period)
            with self.assertRaises(InvalidNumber):
                call(long_text(2000), 2001)
        self.assertEqual(period_classes(long_text(2000), 2000), [[0], [1]])
        self.assertEqual(fewest_for_period(long_text(2000), 1), [(1, "a")])


class CheapestPeriods(unittest.TestCase):
    def test_random_texts(self):
        source = random.Random(47)
        for _ in range(40):
            text = Text(*random_steps(source, 6, 25))
            costs = [(len(fewest_for_period(text, period)), period) for period in range(1, text.size)]
            expected = min(costs)[::-1] if costs else None
            self.assertEqual(cheapest_period(text), expected)

    def test_the_smallest_of_several(self):
        self.assertEqual(cheapest_period(Text.of_word("abab")), (2, 0))
        self.assertEqual(cheapest_period(Text.of_word("aaaa")), (1, 0))
        self.assertEqual(cheapest_period(Text.of_word("ab")), (1, 1))
        self.assertEqual(cheapest_period(Text.of_word("abcd")), (3, 1))

    def test_edges(self):
        self.assertIsNone(cheapest_period(Text()))
        self.assertIsNone(cheapest_period(Text.of_word("a")))
        self.assertEqual(cheapest_period(Text(("write", "ab"), ("paste", 0, 1, 99))), (2, 0))
        self.assertEqual(long_text(200).size, 200)
        self.assertEqual(cheapest_period(long_text(200)), (199, 0))
        for size in (201, 2000, 2001, 10 ** 9):
            with self.assertRaises(TooLong):
                cheapest_period(long_text(size))


class RetypedBy(unittest.TestCase):
    def test_one_after_another(self):
        text = Text(("write", "abc"), ("paste", 1, 2, 2), ("write", "d"))
        changes = [(1, "x"), (3, "y"), (1, "z")]
        after = retyped_by(text, changes)
        self.assertEqual(after.steps, (("write", "azc"), ("paste", 1, 2, 2), ("write", "y")))
        self.assertEqual(changes, [(1, "x"), (3, "y"), (1, "z")])
        self.assertEqual(text.typed_keys, "abcd")

    def test_no_changes(self):
        text = Text(("write", "abc"), ("paste", 1, 2, 2))
        self.assertEqual(retyped_by(text, []), text)
        self.assertEqual(retyped_by(Text(), []), Text())

    def test_any_size(self):
        large = Text.of_word("ab") * 10 ** 9 * (5 * 10 ** 8)
        after = retyped_by(large, [(1, "q")])
        self.assertEqual((after.size, after[10 ** 18 - 1], after[10 ** 18 - 2]), (10 ** 18, "q", "a"))

    def test_wrong_items(self):
        text = Text.of_word("abc")
        wrong = [None, True, 0, "", "ab", (), (0,), (0, "a", "b"), [0, "a"], ("a", 0), (-1, "a"), (3, "a")]
        wrong.extend((key, "a") for key in WRONG_NUMBERS)
        wrong.extend((0, letter) for letter in WRONG_LETTERS)
        for item in wrong:
            for changes, index in [([item], 0), ([(0, "x"), (2, "y"), item, None], 2)]:
                with self.assertRaises(InvalidChanges) as caught:
                    retyped_by(text, changes)
                self.assertEqual(caught.exception.index, index)
        with self.assertRaises(InvalidChanges):
            retyped_by(Text(), [(0, "a")])

    def test_no_lists(self):
        for changes in [None, True, 0, "", "a", (), ((0, "x"),), (0, "x"), {}]:
            with self.assertRaises(InvalidChanges) as caught:
                retyped_by(Text.of_word("abc"), changes)
            self.assertEqual(caught.exception.index, 0)


class Patterns(unittest.TestCase):
    def test_random_texts(self):
        source = random.Random(53)
        for _ in range(80):
            steps, others = random_steps(source, 6, 25), random_steps(source, 6, 25)
            text, other = Text(*steps), Text(*others)
            patterns = []
            for keys in (plain_keys(steps), plain_keys(others)):
                order = list(dict.fromkeys(keys))
                patterns.append([order.index(key) for key in keys])
            self.assertEqual([tie_pattern(text), tie_pattern(other)], patterns)
            one, two = patterns
            places = [place for place in range(max(len(one), len(two)))
                      if one[place:place + 1] != two[place:place + 1]]
            self.assertEqual(first_unlike_tie(text, other), places[0] if places else None)
            self.assertIsNone(first_unlike_tie(text, text))

    def test_letters_do_not_matter(self):
        text = Text(("write", "abc"), ("paste", 1, 2, 2))
        self.assertEqual(tie_pattern(text.retyped(0, "b")), tie_pattern(text))
        self.assertIsNone(first_unlike_tie(text, text.retyped(0, "b")))
        self.assertIsNone(first_unlike_tie(Text.of_word("ab"), Text(("write", "x"), ("write", "x"))))

    def test_edges(self):
        self.assertEqual([tie_pattern(Text()), tie_pattern(Text.of_word("z"))], [[], [0]])
        self.assertIsNone(first_unlike_tie(Text(), Text()))
        self.assertEqual(first_unlike_tie(Text(), Text.of_word("a")), 0)
        self.assertEqual(first_unlike_tie(Text.of_word("abc"), Text.of_word("ab")), 2)
        self.assertEqual(first_unlike_tie(Text.of_word("aa"), Text(("write", "a"), ("paste", 0, 0, 1))), 1)

    def test_too_long(self):
        fits, too_long = long_text(2000), long_text(2001)
        self.assertEqual(tie_pattern(fits), [0, 1] + [0] * 1998)
        with self.assertRaises(TooLong):
            tie_pattern(too_long)
        for pair in [(fits, too_long), (too_long, fits), (Text(), too_long)]:
            with self.assertRaises(TooLong):
                first_unlike_tie(*pair)


if __name__ == "__main__":
    unittest.main()
