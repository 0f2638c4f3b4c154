"""Readers of hidden keys (points 12 and 13)."""

import itertools
import random
import unittest

from plain import WRONG_LETTERS, WRONG_NUMBERS, plain_keys, random_steps
from pastekeys.errors import Contradiction, InvalidLetter, InvalidPlace
from pastekeys.hidden import KeyReader
from pastekeys.texts import Text

STEPS = (("write", "abc"), ("paste", 1, 2, 2))
NO_WORDS = ["", "a" * 21, "aB", "A", "a b", "a1", "\u00e4", "a\n", None, 0, 1, True, (), ("a",), [], ["a"]]
LARGEST = (("write", "ab"), ("paste", 0, 1, 10 ** 9 - 1), ("paste", 0, 2 * 10 ** 9 - 1, 5 * 10 ** 8 - 1))


def state(reader):
    """All that can be seen of a reader."""
    return (reader.known_letters, reader.observations, reader.count_texts(), reader.fewest_places(),
            reader.text_with("o").steps)


class Case(unittest.TestCase):
    def setUp(self):
        self.text = Text(*STEPS)
        self.reader = KeyReader(self.text)

    def fails(self, error, call, reader=None):
        """The call raises exactly this error and changes no state."""
        reader = reader or self.reader
        before = state(reader)
        with self.assertRaises(error) as caught:
            call()
        self.assertIs(caught.exception.__class__, error)
        self.assertEqual(state(reader), before)


class Empty(Case):
    def test_the_empty_text(self):
        reader = KeyReader(Text())
        self.assertEqual(state(reader), ({}, [], 1, [], ()))
        self.assertIsNone(reader[0])
        self.fails(InvalidPlace, lambda: reader.see(0, "a"), reader)
        self.fails(InvalidPlace, lambda: reader.see_word(0, "a"), reader)
        self.fails(InvalidLetter, lambda: reader.see_word(0, ""), reader)
        self.fails(InvalidPlace, lambda: reader.see_word(1, ""), reader)
        self.fails(InvalidPlace, lambda: reader.hear_alike(0, 0), reader)
        self.fails(InvalidPlace, lambda: reader.is_surely_alike(0, 0), reader)

    def test_at_first(self):
        self.assertEqual(state(self.reader),
                         ({}, [], 26 ** 3, [0, 1, 2], (("write", "ooo"), ("paste", 1, 2, 2))))
        self.assertEqual([self.reader[place] for place in range(7)], [None] * 7)

    def test_letters_of_the_text_do_not_matter(self):
        self.assertEqual(KeyReader(Text.of_word("aaa")).count_texts(), 26 ** 3)
        one, other = KeyReader(Text.of_word("aba")), KeyReader(Text.of_word("xyz"))
        for reader in (one, other):
            reader.see(0, "q")
            reader.hear_alike(1, 2)
        self.assertEqual(state(one), state(other))
        self.assertFalse(one.is_surely_alike(0, 2))


class See(Case):
    def test_known_keys(self):
        self.assertEqual([self.reader.see(6, "z"), self.reader.see(0, "z"), self.reader.see(4, "z")], [1, 2, 2])
        self.assertEqual(self.reader.known_letters, {0: "z", 2: "z"})
        self.assertEqual([self.reader[place] for place in range(7)], ["z", None, "z", None, "z", None, "z"])
        self.assertEqual(self.reader.count_texts(), 26)
        self.assertEqual(self.reader.see(5, "a"), 3)
        self.assertEqual(self.reader.count_texts(), 1)

    def test_keys_ascend(self):
        self.reader.see(2, "c")
        self.reader.see(1, "b")
        self.reader.see(0, "a")
        self.assertEqual(list(self.reader.known_letters), [0, 1, 2])

    def test_wrong_places(self):
        for place in [-1, 7, 8, 10 ** 18, *WRONG_NUMBERS]:
            self.fails(InvalidPlace, lambda: self.reader.see(place, "a"))

    def test_wrong_letters(self):
        for letter in WRONG_LETTERS:
            self.fails(InvalidLetter, lambda: self.reader.see(6, letter))

    def test_order(self):
        self.reader.see(0, "a")
        self.fails(InvalidPlace, lambda: self.reader.see(7, "A"))
        self.fails(InvalidPlace, lambda: self.reader.see(True, True))
        self.fails(InvalidLetter, lambda: self.reader.see(0, "A"))

    def test_contradiction(self):
        self.reader.see(1, "b")
        for place in (1, 3, 5):
            self.fails(Contradiction, lambda: self.reader.see(place, "c"))
        self.assertEqual(self.reader.see(2, "c"), 2)
        self.assertEqual(self.reader.observations, [("see", 1, "b"), ("see", 2, "c")])

    def test_nothing_new(self):
        for _ in range(3):
            self.assertEqual(self.reader.see(3, "b"), 1)
        self.assertEqual(self.reader.see(1, "b"), 1)
        self.assertEqual(self.reader.observations, [("see", 3, "b")] * 3 + [("see", 1, "b")])


class SeeWord(Case):
    def test_known_keys(self):
        self.assertEqual(self.reader.see_word(4, "c"), 1)
        self.assertEqual(self.reader.see_word(1, "bcb"), 2)
        self.assertEqual(self.reader.known_letters, {1: "b", 2: "c"})
        self.assertEqual(self.reader.see_word(0, "abcbcbc"), 3)
        self.assertEqual(self.reader.observations,
                         [("see_word", 4, "c"), ("see_word", 1, "bcb"), ("see_word", 0, "abcbcbc")])

    def test_end_of_the_text(self):
        self.assertEqual(self.reader.see_word(5, "bc"), 2)
        self.fails(InvalidPlace, lambda: self.reader.see_word(5, "bcb"))
        self.fails(InvalidPlace, lambda: self.reader.see_word(6, "cb"))
        self.fails(InvalidPlace, lambda: self.reader.see_word(7, "a"))
        self.fails(InvalidPlace, lambda: self.reader.see_word(0, "abcbcbcb"))

    def test_lengths_of_words(self):
        reader = KeyReader(Text(("write", "a" * 20), ("write", "b" * 20)))
        self.assertEqual(reader.see_word(10, "abcdefghijklmnopqrst"), 20)
        self.assertEqual(reader.see_word(20, "klmnopqrst" + "z" * 10), 30)
        self.fails(InvalidLetter, lambda: reader.see_word(0, "a" * 21), reader)
        self.fails(InvalidLetter, lambda: reader.see_word(0, ""), reader)

    def test_wrong_places(self):
        for place in [-1, 8, 10 ** 18, *WRONG_NUMBERS]:
            self.fails(InvalidPlace, lambda: self.reader.see_word(place, "a"))

    def test_wrong_words(self):
        for word in NO_WORDS:
            self.fails(InvalidLetter, lambda: self.reader.see_word(0, word))

    def test_order(self):
        self.reader.see(0, "a")
        for place, word in ((8, ""), (-1, "A"), (None, None), (True, True)):
            self.fails(InvalidPlace, lambda: self.reader.see_word(place, word))
        # The size itself is looked at as a first place of a word that is too long.
        for place, word in ((7, ""), (7, "A"), (6, "aA"), (0, "b" * 21), (0, "z" * 7 + "Z")):
            self.fails(InvalidLetter, lambda: self.reader.see_word(place, word))
        self.fails(InvalidPlace, lambda: self.reader.see_word(0, "zzzzzzzz"))

    def test_all_or_none(self):
        self.fails(Contradiction, lambda: self.reader.see_word(0, "abcbcbx"))
        self.fails(Contradiction, lambda: self.reader.see_word(1, "bcc"))
        self.reader.see(6, "c")
        self.fails(Contradiction, lambda: self.reader.see_word(0, "abx"))
        self.assertEqual(self.reader.known_letters, {2: "c"})
        self.assertEqual(self.reader.see_word(0, "xyc"), 3)


class HearAlike(Case):
    def test_remaining_texts(self):
        reader = KeyReader(Text.of_word("abcd"))
        self.assertEqual([reader.hear_alike(0, 1), reader.hear_alike(3, 2), reader.hear_alike(2, 2)],
                         [26 ** 3, 26 ** 2, 26 ** 2])
        self.assertEqual([reader.hear_alike(3, 0), reader.hear_alike(1, 2)], [26, 26])
        self.assertEqual((reader.see(2, "z"), reader.count_texts()), (4, 1))
        self.assertEqual(reader.known_letters, {0: "z", 1: "z", 2: "z", 3: "z"})

    def test_letters_go_over(self):
        for place, other in ((0, 2), (2, 0)):
            for seen in (0, 2):
                reader = KeyReader(self.text)
                reader.see(seen, "q")
                self.assertEqual(reader.hear_alike(place, other), 26)
                self.assertEqual(reader.known_letters, {0: "q", 2: "q"})
                self.fails(Contradiction, lambda: reader.see(6, "r"), reader)

    def test_equal_letters_are_no_contradiction(self):
        self.reader.see_word(0, "aab")
        self.assertEqual(self.reader.hear_alike(0, 1), 1)
        self.assertEqual(self.reader.hear_alike(1, 0), 1)
        self.assertEqual(self.reader.hear_alike(2, 4), 1)

    def test_contradiction(self):
        self.reader.see_word(0, "aab")
        for place, other in ((0, 2), (2, 0), (6, 5), (3, 4)):
            self.fails(Contradiction, lambda: self.reader.hear_alike(place, other))
        self.assertEqual(self.reader.observations, [("see_word", 0, "aab")])

    def test_contradiction_through_others(self):
        reader = KeyReader(Text.of_word("abcd"))
        reader.hear_alike(0, 1)
        reader.hear_alike(2, 3)
        reader.see(1, "x")
        reader.see(2, "y")
        self.fails(Contradiction, lambda: reader.hear_alike(0, 3), reader)
        self.fails(Contradiction, lambda: reader.see_word(0, "xy"), reader)
        self.assertEqual(reader.see_word(0, "xxyy"), 4)

    def test_wrong_places(self):
        for place in [-1, 7, 10 ** 18, *WRONG_NUMBERS]:
            for call in (self.reader.hear_alike, self.reader.is_surely_alike):
                self.fails(InvalidPlace, lambda: call(place, 0))
                self.fails(InvalidPlace, lambda: call(0, place))
                self.fails(InvalidPlace, lambda: call(place, place))

    def test_nothing_new(self):
        for _ in range(2):
            self.assertEqual(self.reader.hear_alike(0, 0), 26 ** 3)
            self.assertEqual(self.reader.hear_alike(6, 4), 26 ** 3)
        self.assertEqual(self.reader.observations, [("hear_alike", 0, 0), ("hear_alike", 6, 4)] * 2)


class FromLog(Case):
    def test_all_kinds(self):
        observations = [("see", 0, "q"), ("hear_alike", 0, 3), ("see_word", 4, "zq")]
        reader = KeyReader.from_log(self.text, *observations)
        self.assertIsInstance(reader, KeyReader)
        self.assertEqual(reader.observations, observations)
        self.assertEqual(reader.known_letters, {0: "q", 1: "q", 2: "z"})
        self.assertEqual(state(KeyReader.from_log(self.text, *reader.observations)), state(reader))

    def test_without_observations(self):
        self.assertEqual(state(KeyReader.from_log(self.text)), state(self.reader))
        self.assertEqual(state(KeyReader.from_log(Text())), state(KeyReader(Text())))

    def test_errors(self):
        for error, wrong in ((InvalidPlace, ("see", 7, "a")), (InvalidLetter, ("see", 0, "A")),
                             (InvalidPlace, ("see_word", 6, "ab")), (InvalidLetter, ("see_word", 6, "")),
                             (InvalidPlace, ("hear_alike", 0, 7)), (Contradiction, ("see", 3, "c")),
                             (Contradiction, ("hear_alike", 1, 0)), (Contradiction, ("see_word", 2, "xy"))):
            with self.assertRaises(error) as caught:
                KeyReader.from_log(self.text, ("see", 0, "a"), ("see", 1, "b"), wrong, ("see", 99, "a"))
            self.assertIs(caught.exception.__class__, error)

    def test_arguments_are_not_kept(self):
        observations = [("see", 0, "q")]
        reader = KeyReader.from_log(self.text, *observations)
        reader.see(1, "r")
        self.assertEqual(observations, [("see", 0, "q")])
        observations.clear()
        self.assertEqual(len(reader.observations), 2)


class Known(Case):
    def test_places_that_do_not_exist(self):
        self.reader.see_word(0, "abc")
        for place in [-1, 7, 10 ** 18, *WRONG_NUMBERS]:
            self.assertIsNone(self.reader[place])

    def test_no_loops(self):
        for reader in (self.reader, KeyReader(Text())):
            for walk in (iter, list, tuple, sorted, lambda reader: [0 for _ in reader], lambda reader: "a" in reader):
                with self.assertRaises(TypeError):
                    walk(reader)

    def test_returned_values_may_be_changed(self):
        self.reader.see(0, "q")
        before = state(self.reader)
        known, log, places = self.reader.known_letters, self.reader.observations, self.reader.fewest_places()
        known[1] = "r"
        known.pop(0)
        log.clear()
        places.append(99)
        self.assertEqual(state(self.reader), before)
        self.assertEqual(state(self.reader), before)

    def test_surely_alike(self):
        reader = KeyReader(Text.of_word("abcdef"))
        self.assertIs(reader.is_surely_alike(3, 3), True)
        self.assertIs(reader.is_surely_alike(0, 1), False)
        reader.hear_alike(0, 1)
        self.assertIs(reader.is_surely_alike(1, 0), True)
        reader.see(2, "x")
        self.assertIs(reader.is_surely_alike(2, 0), False)
        self.assertIs(reader.is_surely_alike(0, 2), False)
        # Places that were not told to be alike, but are known to have the same letter.
        reader.see(1, "x")
        self.assertIs(reader.is_surely_alike(0, 2), True)
        reader.see(5, "y")
        self.assertIs(reader.is_surely_alike(5, 2), False)
        self.assertIs(reader.is_surely_alike(3, 4), False)
        self.assertEqual(len(reader.observations), 4)

    def test_fewest_places(self):
        reader = KeyReader(Text(("write", "ab"), ("paste", 0, 1, 3), ("write", "cd"), ("paste", 8, 9, 2)))
        self.assertEqual(reader.fewest_places(), [0, 1, 8, 9])
        reader.hear_alike(9, 1)
        self.assertEqual(reader.fewest_places(), [0, 1, 8])
        reader.see(0, "a")
        self.assertEqual(reader.fewest_places(), [1, 8])
        reader.see_word(7, "xy")
        self.assertEqual(reader.fewest_places(), [])

    def test_text_with(self):
        self.reader.see(5, "x")
        text = self.reader.text_with("o")
        self.assertEqual(text.steps, (("write", "oxo"), ("paste", 1, 2, 2)))
        self.assertIsInstance(text, Text)
        self.reader.see_word(0, "axb")
        self.assertEqual(self.reader.text_with("o"), Text(("write", "axb"), ("paste", 1, 2, 2)))
        self.assertEqual(self.text, Text(*STEPS))
        for letter in WRONG_LETTERS:
            self.fails(InvalidLetter, lambda: self.reader.text_with(letter))

    def test_several_written_steps(self):
        text = Text(("write", "abc"), ("paste", 0, 2, 1), ("write", "de"), ("paste", 6, 7, 2))
        reader = KeyReader(text)
        self.assertEqual((reader.see_word(9, "xy"), reader.see(4, "z")), (2, 3))
        self.assertEqual(reader.known_letters, {1: "z", 3: "y", 4: "x"})
        self.assertEqual(reader.text_with("o").steps,
                         (("write", "ozo"), ("paste", 0, 2, 1), ("write", "yx"), ("paste", 6, 7, 2)))
        self.assertEqual(reader.fewest_places(), [0, 2])


class Long(Case):
    def test_a_long_text(self):
        text = Text(*LARGEST)
        self.assertEqual(text.size, 10 ** 18)
        reader = KeyReader(text)
        self.assertEqual(reader.see(10 ** 18 - 1, "q"), 1)
        self.assertEqual((reader[1], reader[10 ** 17], reader[10 ** 18]), ("q", None, None))
        self.fails(InvalidPlace, lambda: reader.see(10 ** 18, "q"), reader)
        self.fails(InvalidPlace, lambda: reader.see_word(10 ** 18 - 2, "xqx"), reader)
        self.assertEqual(reader.see_word(10 ** 18 - 2, "xq"), 2)
        self.fails(Contradiction, lambda: reader.hear_alike(0, 10 ** 18 - 1), reader)
        self.assertTrue(reader.is_surely_alike(0, 10 ** 18 - 2))

    def test_many_keys(self):
        reader = KeyReader(Text(*[("write", "a" * 20)] * 30))
        self.assertEqual(reader.count_texts(), 26 ** 600)
        self.assertEqual(reader.hear_alike(0, 599), 26 ** 599)
        self.assertEqual(reader.fewest_places(), list(range(599)))


class AgainstAllTexts(Case):
    """Short texts with two or three keys: what holds in all texts that are possible."""

    def told(self, choice, size):
        place, kind = choice.randrange(size), choice.choice(["see", "see_word", "hear_alike"])
        if kind == "see":
            return (kind, place, choice.choice("ab"))
        if kind == "hear_alike":
            return (kind, place, choice.randrange(size))
        length = choice.randint(1, min(3, size - place))
        return (kind, place, "".join(choice.choice("ab") for _ in range(length)))

    def holds(self, keys, letters, told):
        kind, place, more = told
        if kind == "hear_alike":
            return letters[keys[place]] == letters[keys[more]]
        return all(letters[keys[place + at]] == letter for at, letter in enumerate(more))

    def places_that_tell_all(self, keys, possible):
        first = [min(at for at, other in enumerate(keys) if other == key) for key in sorted(set(keys))]
        for many in range(len(first) + 1):
            for places in itertools.combinations(range(min(len(keys), 12)), many):
                if len({tuple(letters[keys[at]] for at in places) for letters in possible}) == len(possible):
                    return list(places)
        return None

    def look(self, reader, keys, possible):
        known = {key: possible[0][key] for key in range(len(possible[0]))
                 if len({letters[key] for letters in possible}) == 1}
        self.assertEqual(reader.known_letters, known)
        self.assertEqual(reader.count_texts(), len(possible))
        self.assertEqual([reader[at] for at in range(len(keys))], [known.get(key) for key in keys])
        for one, other in itertools.product(range(len(keys)), repeat=2):
            alike = all(letters[keys[one]] == letters[keys[other]] for letters in possible)
            self.assertEqual(reader.is_surely_alike(one, other), alike)

    def test_many_runs(self):
        choice = random.Random(13)
        for many in (2, 2, 2, 2, 2, 2, 2, 2, 3):
            steps = [("write", "ab"[:many - 1]), ("paste", 0, many - 2, choice.randint(1, 3)), ("write", "c"),
                     ("paste", choice.randint(0, 1), choice.randint(1, 2), 1)]
            keys = plain_keys(steps)
            reader, log = KeyReader(Text(*steps)), []
            possible = list(itertools.product("abcdefghijklmnopqrstuvwxyz", repeat=many))
            for _ in range(8):
                told = self.told(choice, len(keys))
                remaining = [letters for letters in possible if self.holds(keys, letters, told)]
                try:
                    result = getattr(reader, told[0])(*told[1:])
                except Contradiction:
                    self.assertEqual(remaining, [])
                    continue
                possible = remaining
                log.append(told)
                self.look(reader, keys, possible)
                expected = len(possible) if told[0] == "hear_alike" else len(reader.known_letters)
                self.assertEqual((result, reader.observations), (expected, log))
                if len(possible) <= 26 ** 2:
                    self.assertEqual(reader.fewest_places(), self.places_that_tell_all(keys, possible))

    def test_replayed(self):
        choice = random.Random(14)
        for _ in range(60):
            steps = random_steps(choice, 6, 50)
            if not steps:
                continue
            text = Text(*steps)
            reader = KeyReader(text)
            for _ in range(10):
                told = self.told(choice, text.size)
                try:
                    getattr(reader, told[0])(*told[1:])
                except Contradiction:
                    pass
            self.assertEqual(state(KeyReader.from_log(text, *reader.observations)), state(reader))
            # What would make all known does so.
            for place in reader.fewest_places():
                reader.see(place, choice.choice("xyz"))
            self.assertEqual(reader.count_texts(), 1)
            self.assertEqual(len(reader.known_letters), len(text.typed_keys))


if __name__ == "__main__":
    unittest.main()
