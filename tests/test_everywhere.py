"""What holds everywhere (point 1): nothing is kept or changed, calls can be repeated."""

import unittest

from pastekeys.counting import (key_counts, letter_counts, letters_between, nth_place_of_key,
                                nth_place_of_letter, places_of_key)
from pastekeys.texts import Text
from pastekeys.ties import (cheapest_period, equal_classes, fewest_for_equal, fewest_for_mirror,
                            fewest_for_period, first_unlike_tie, mirror_classes, period_classes,
                            retyped_by, tie_pattern)

STEPS = (("write", "abca"), ("paste", 1, 2, 2), ("write", "cb"), ("paste", 0, 9, 3))
OTHER = (("write", "cabcc"), ("paste", 0, 4, 7))


def calls():
    """Calls that return lists and dicts."""
    text, other = Text(*STEPS), Text(*OTHER)
    return [
        lambda: key_counts(text, 1, 30), lambda: letter_counts(text, 1, 30),
        lambda: list(places_of_key(text, 1, 0)), lambda: equal_classes(text, other),
        lambda: fewest_for_equal(text, other), lambda: mirror_classes(text),
        lambda: fewest_for_mirror(text), lambda: period_classes(text, 7),
        lambda: fewest_for_period(text, 7), lambda: tie_pattern(text),
    ]


def spoil(value):
    """Change a returned list or dict as far as that is possible."""
    if isinstance(value, dict):
        value["a"] = -1
        value["!"] = 0
    else:
        for item in value:
            if isinstance(item, list):
                item.append(-1)
        value.append(-1)
        value.reverse()


class Everywhere(unittest.TestCase):
    def test_texts_of_this_test(self):
        self.assertEqual((Text(*STEPS).size, Text(*OTHER).size), (40, 40))

    def test_returned_values_may_be_changed(self):
        for call, fresh in zip(calls(), calls()):
            spoil(call())
            self.assertEqual(call(), fresh())

    def test_repeated_calls(self):
        text, other = Text(*STEPS), Text(*OTHER)
        more = [lambda: letters_between(text, 0, 39), lambda: nth_place_of_key(text, 2, 3),
                lambda: nth_place_of_letter(text, "b", 4), lambda: cheapest_period(text),
                lambda: first_unlike_tie(text, other), lambda: retyped_by(text, [(0, "x")]).steps,
                lambda: (text + other).steps, lambda: (text * 3).steps]
        for call in calls() + more:
            self.assertEqual(call(), call())
        self.assertEqual((text, other), (Text(*STEPS), Text(*OTHER)))

    def test_arguments_are_not_kept(self):
        steps, changes = list(STEPS), [(0, "x"), (3, "y")]
        text = Text.of_steps(steps)
        after = retyped_by(text, changes)
        self.assertEqual((steps, changes), (list(STEPS), [(0, "x"), (3, "y")]))
        steps.clear()
        changes.clear()
        self.assertEqual(text, Text(*STEPS))
        self.assertEqual(after.typed_keys, "xbcycb")

    def test_failing_calls_change_nothing(self):
        text = Text(*STEPS)
        for call in (lambda: text(99), lambda: text["a"], lambda: text * 0, lambda: text.retyped(0, "A"),
                     lambda: retyped_by(text, [(0, "x"), None]), lambda: key_counts(text, 5, 0)):
            with self.assertRaises(ValueError):
                call()
        self.assertEqual(text, Text(*STEPS))

    def test_generators_yield_equal_values(self):
        text = Text(*STEPS)
        one, two = places_of_key(text, 0, 0), places_of_key(text, 0, 0)
        self.assertEqual(next(one), next(two))
        self.assertEqual(list(one), list(two))


if __name__ == "__main__":
    unittest.main()
