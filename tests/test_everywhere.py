"""What holds everywhere (point 1): nothing is kept or changed, calls can be repeated."""

import random
import unittest

from plain import plain_keys, plain_letters, random_steps
from pastekeys.codec import decode_text, encode_text, pack_bytes, unpack_bytes
from pastekeys.counting import (key_counts, letter_counts, letters_between, nth_place_of_key,
                                nth_place_of_letter, places_of_key)
from pastekeys.editor import Editor
from pastekeys.errors import (InvalidCount, InvalidLetter, InvalidNumber, InvalidOperation, InvalidPlace,
                              InvalidStep, TextError)
from pastekeys.hidden import KeyReader
from pastekeys.notation import format_text, key_table, parse_text
from pastekeys.texts import Text
from pastekeys.ties import (cheapest_period, equal_classes, fewest_for_equal, fewest_for_mirror,
                            fewest_for_period, first_unlike_tie, mirror_classes, period_classes,
                            retyped_by, tie_pattern)

STEPS = (("write", "abca"), ("paste", 1, 2, 2), ("write", "cb"), ("paste", 0, 9, 3))
OTHER = (("write", "cabcc"), ("paste", 0, 4, 7))


def calls():
    """Calls that return lists and dicts."""
    text, other = Text(*STEPS), Text(*OTHER)
    editor = Editor.replay(STEPS, [("write", "cc"), ("retype", 3, "z")])
    reader = KeyReader.from_log(text, ("see", 9, "q"), ("hear_alike", 1, 3))
    data = encode_text(text)
    return [
        lambda: key_counts(text, 1, 30), lambda: letter_counts(text, 1, 30),
        lambda: list(places_of_key(text, 1, 0)), lambda: equal_classes(text, other),
        lambda: fewest_for_equal(text, other), lambda: mirror_classes(text),
        lambda: fewest_for_mirror(text), lambda: period_classes(text, 7),
        lambda: fewest_for_period(text, 7), lambda: tie_pattern(text),
        lambda: editor.history, lambda: list(editor.sizes_after(("write", "q"), ("retype", 0, "q"))),
        lambda: reader.known_letters, lambda: reader.observations, lambda: reader.fewest_places(),
        lambda: unpack_bytes(data),
    ]


def spoil(value):
    """Change a returned list or dict as far as that is possible."""
    if isinstance(value, dict):
        value["a"] = -1
        value["!"] = 0
    else:
        for item in value:
            if isinstance(item, list):
                item.append(-1)
        value.append(-1)
        value.reverse()


class Everywhere(unittest.TestCase):
    def test_texts_of_this_test(self):
        self.assertEqual((Text(*STEPS).size, Text(*OTHER).size), (40, 40))

    def test_returned_values_may_be_changed(self):
        for call, fresh in zip(calls(), calls()):
            spoil(call())
            self.assertEqual(call(), fresh())

    def test_repeated_calls(self):
        text, other = Text(*STEPS), Text(*OTHER)
        more = [lambda: letters_between(text, 0, 39), lambda: nth_place_of_key(text, 2, 3),
                lambda: nth_place_of_letter(text, "b", 4), lambda: cheapest_period(text),
                lambda: first_unlike_tie(text, other), lambda: retyped_by(text, [(0, "x")]).steps,
                lambda: (text + other).steps, lambda: (text * 3).steps,
                lambda: format_text(text), lambda: key_table(text), lambda: encode_text(text),
                lambda: parse_text(format_text(text)).steps, lambda: decode_text(encode_text(text)).steps]
        for call in calls() + more:
            self.assertEqual(call(), call())
        self.assertEqual((text, other), (Text(*STEPS), Text(*OTHER)))

    def test_arguments_are_not_kept(self):
        steps, changes = list(STEPS), [(0, "x"), (3, "y")]
        text = Text.of_steps(steps)
        after = retyped_by(text, changes)
        self.assertEqual((steps, changes), (list(STEPS), [(0, "x"), (3, "y")]))
        steps.clear()
        changes.clear()
        self.assertEqual(text, Text(*STEPS))
        self.assertEqual(after.typed_keys, "xbcycb")

    def test_failing_calls_change_nothing(self):
        text = Text(*STEPS)
        for call in (lambda: text(99), lambda: text["a"], lambda: text * 0, lambda: text.retyped(0, "A"),
                     lambda: retyped_by(text, [(0, "x"), None]), lambda: key_counts(text, 5, 0)):
            with self.assertRaises(ValueError):
                call()
        self.assertEqual(text, Text(*STEPS))

    def test_generators_yield_equal_values(self):
        text = Text(*STEPS)
        one, two = places_of_key(text, 0, 0), places_of_key(text, 0, 0)
        self.assertEqual(next(one), next(two))
        self.assertEqual(list(one), list(two))
        editor = Editor(*STEPS)
        operations = (("write", "q"), ("paste", 0, 0, 5), ("retype", 0, "q"))
        one, two = editor.sizes_after(*operations), editor.sizes_after(*operations)
        self.assertEqual(next(one), next(two))
        self.assertEqual(list(one), list(two))

    def test_arguments_are_checked_from_left_to_right(self):
        text = Text(*STEPS)
        editor, reader = Editor(*STEPS), KeyReader(text)
        for error, call in (
                (InvalidPlace, lambda: letters_between(text, 5, 2)), (InvalidNumber, lambda: text * True),
                (InvalidPlace, lambda: editor.retype(40, "A")), (InvalidLetter, lambda: editor.retype(39, "A")),
                (InvalidPlace, lambda: reader.see(40, "A")), (InvalidLetter, lambda: reader.see(39, "A")),
                (InvalidPlace, lambda: reader.see_word(41, "A")), (InvalidLetter, lambda: reader.see_word(40, "A")),
                (InvalidStep, lambda: Editor.replay((None,), [None])),
                (InvalidOperation, lambda: Editor.replay(STEPS, [("write", "A"), None])),
                (InvalidCount, lambda: pack_bytes([True]))):
            with self.assertRaises(error) as caught:
                call()
            self.assertIs(caught.exception.__class__, error)


def written_anew(text):
    """The same text, made in all ways that the package has."""
    return [Text(*text.steps), Text.of_steps(list(text.steps)), parse_text(format_text(text)),
            decode_text(encode_text(text)), decode_text(pack_bytes(unpack_bytes(encode_text(text)))),
            Editor(*text.steps).present_text, Editor.replay((), list(text.steps)).present_text,
            KeyReader.from_log(text, *seen(text)).text_with("z"), retyped_by(text, [])]


def seen(text):
    """Observations of all letters of a text."""
    return [("see", place, text[place]) for place in range(text.size)]


class Agreement(unittest.TestCase):
    def test_ways_to_make_a_text(self):
        choice = random.Random(19)
        for _ in range(60):
            steps = random_steps(choice, 12, 100)
            text, keys, letters = Text(*steps), plain_keys(steps), plain_letters(steps)
            for made in written_anew(text):
                self.assertEqual(made, text)
                self.assertEqual(tie_pattern(made), keys)
                self.assertEqual(letters_between(made, 0, made.size - 1), letters)
            rows = key_table(text).split("\n") if keys else []
            self.assertEqual([int(row.split(" ")[-1].replace(",", "")) for row in rows],
                             key_counts(text, 0, text.size - 1))

    def test_ways_to_retype(self):
        choice = random.Random(20)
        for _ in range(60):
            steps = random_steps(choice, 8, 80)
            if not steps:
                continue
            text = Text(*steps)
            place, letter = choice.randrange(text.size), choice.choice("abcz")
            key = text(place)
            changed = text.retyped(key, letter)
            editor, reader = Editor(*steps), KeyReader(text)
            counted = 0 if text[place] == letter else key_counts(text, 0, text.size - 1)[key]
            self.assertEqual(editor.retype(place, letter), counted)
            reader.see(place, letter)
            for other in range(len(text.typed_keys)):
                if other != key:
                    reader.see(next(places_of_key(text, other, 0)), text.typed_keys[other])
            for made in (retyped_by(text, [(key, letter)]), editor.present_text, reader.text_with("q")):
                self.assertEqual(made, changed)
            for made in written_anew(changed):
                self.assertEqual(made, changed)

    def test_fewest_changes_in_an_editor(self):
        choice = random.Random(21)
        for _ in range(60):
            steps = random_steps(choice, 8, 80)
            text = Text(*steps)
            changes = fewest_for_mirror(text)
            places = [next(places_of_key(text, key, 0)) for key, _ in changes]
            editor = Editor(*steps)
            editor.apply(*[("retype", place, letter) for place, (_, letter) in zip(places, changes)])
            self.assertEqual(editor.present_text, retyped_by(text, changes))
            letters = letters_between(editor.present_text, 0, text.size - 1)
            self.assertEqual(letters, letters[::-1])

    def test_ties_and_readers(self):
        choice = random.Random(22)
        for _ in range(40):
            text = Text(*random_steps(choice, 8, 60))
            reader = KeyReader(text)
            for place in range(text.size):
                reader.hear_alike(place, text.size - 1 - place)
            classes = mirror_classes(text)
            self.assertEqual(reader.count_texts(), 26 ** len(classes))
            self.assertEqual([text(place) for place in reader.fewest_places()], [tied[0] for tied in classes])

    def test_the_same_errors(self):
        full = (("write", "a"), ("paste", 0, 0, 10 ** 9 - 1), ("paste", 0, 10 ** 9 - 1, 10 ** 9 - 1))
        for steps in ((("paste", 0, 0, 1),), (("write", "a"), ("paste", 0, 0, 10 ** 9 + 1)),
                      (*full, ("write", "a")), (("write", "a"),) * 31):
            rows = "\n".join(" ".join(str(part) for part in step) for step in steps)
            told = []
            for make in (lambda: Text(*steps), lambda: Text.of_steps(list(steps)), lambda: parse_text(rows),
                         lambda: Editor(*steps), lambda: Editor.replay((), list(steps)),
                         lambda: Editor().apply(*steps), lambda: list(Editor().sizes_after(*steps))):
                with self.assertRaises(TextError) as caught:
                    make()
                told.append((caught.exception.__class__, vars(caught.exception)))
            self.assertEqual(told, [told[0]] * len(told))
            self.assertFalse(Editor().is_possible(*steps))


if __name__ == "__main__":
    unittest.main()
