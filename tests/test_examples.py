"""The examples of the interface."""

import unittest

from pastekeys.codec import decode_text, encode_text, pack_bytes, unpack_bytes
from pastekeys.counting import (key_counts, letter_counts, letters_between, nth_place_of_key,
                                nth_place_of_letter, places_of_key)
from pastekeys.editor import Editor
from pastekeys.errors import (Contradiction, DecodeError, InvalidChanges, InvalidKey, InvalidNumber,
                              InvalidOperation, InvalidPlace, InvalidStep, NotationError)
from pastekeys.hidden import KeyReader
from pastekeys.notation import format_text, key_table, parse_text
from pastekeys.texts import Text
from pastekeys.ties import (cheapest_period, equal_classes, fewest_for_equal, fewest_for_mirror,
                            fewest_for_period, first_unlike_tie, mirror_classes, period_classes,
                            retyped_by, tie_pattern)


class TextExamples(unittest.TestCase):
    def setUp(self):
        self.text = Text(("write", "abc"), ("paste", 1, 2, 2))

    def test_a_text(self):
        text = self.text
        self.assertEqual([text.size, text.typed_keys, text(3), text[6]], [7, "abc", 1, "c"])

    def test_a_wrong_step(self):
        with self.assertRaises(InvalidStep) as caught:
            Text(("write", "abc"), ("paste", 1, 3, 2))
        self.assertEqual(caught.exception.index, 1)

    def test_a_wrong_place(self):
        with self.assertRaises(InvalidPlace):
            self.text[7]

    def test_signs(self):
        text = self.text
        self.assertEqual(
            [(text + text).steps, (text * 3).size, "b" in text, text == Text(("write", "abc"))],
            [(("write", "abc"), ("paste", 1, 2, 2), ("write", "abc"), ("paste", 8, 9, 2)),
             21, True, False])

    def test_retyped(self):
        self.assertEqual(letters_between(self.text.retyped(1, "x"), 0, 6), "axcxcxc")
        with self.assertRaises(InvalidKey):
            Text.of_word("abc").retyped(3, "x")


class CountingExamples(unittest.TestCase):
    def setUp(self):
        self.text = Text(("write", "abc"), ("paste", 1, 2, 2))

    def test_counts(self):
        self.assertEqual([key_counts(self.text, 0, 6), letter_counts(self.text, 2, 5)],
                         [[1, 3, 3], {"b": 2, "c": 2}])

    def test_a_long_text(self):
        text = Text.of_word("ab") * 10 ** 9 * 10 ** 8
        self.assertEqual(letter_counts(text, 1, 10 ** 17),
                         {"a": 50000000000000000, "b": 50000000000000000})

    def test_a_wrong_range(self):
        with self.assertRaises(InvalidPlace):
            key_counts(self.text, 3, 1)

    def test_places(self):
        text = self.text
        self.assertEqual([nth_place_of_key(text, 1, 2), nth_place_of_key(text, 0, 1),
                          nth_place_of_letter(text, "c", 0)], [5, None, 2])
        self.assertEqual(list(places_of_key(text, 2, 3)), [4, 6])


class TiesExamples(unittest.TestCase):
    def setUp(self):
        self.text = Text(("write", "abc"), ("paste", 1, 2, 2))

    def test_equal(self):
        one, other = Text(("write", "ab"), ("paste", 0, 0, 1)), Text.of_word("xbx")
        self.assertEqual([equal_classes(one, other), fewest_for_equal(one, other)],
                         [[[0, 2, 4], [1, 3]], [(0, "x")]])
        self.assertIsNone(fewest_for_equal(Text.of_word("ab"), Text.of_word("a")))

    def test_mirror_and_period(self):
        text = self.text
        self.assertEqual([mirror_classes(text), fewest_for_mirror(text),
                          period_classes(text, 3), fewest_for_period(text, 2)],
                         [[[0, 2], [1]], [(2, "a")], [[0, 1, 2]], [(2, "a")]])
        with self.assertRaises(InvalidNumber):
            fewest_for_period(Text.of_word("ab"), 3)

    def test_cheapest_period(self):
        self.assertEqual([cheapest_period(self.text), cheapest_period(Text())], [(2, 1), None])

    def test_retyped_by(self):
        word = Text.of_word("abc")
        self.assertEqual(retyped_by(word, [(0, "x"), (2, "a")]).typed_keys, "xba")
        with self.assertRaises(InvalidChanges) as caught:
            retyped_by(word, [(0, "x"), (3, "a")])
        self.assertEqual(caught.exception.index, 1)

    def test_patterns(self):
        self.assertEqual([tie_pattern(self.text), first_unlike_tie(self.text, Text.of_word("abcb"))],
                         [[0, 1, 2, 1, 2, 1, 2], 3])


class EditorExamples(unittest.TestCase):
    def setUp(self):
        self.editor = Editor(("write", "ab"), ("paste", 0, 1, 2))

    def test_write_and_paste(self):
        editor = self.editor
        self.assertEqual([editor.write("c"), editor.paste(6, 6, 3), len(editor)], [7, 10, 2])

    def test_a_wrong_word(self):
        with self.assertRaises(InvalidStep) as caught:
            self.editor.write("")
        self.assertEqual(caught.exception.index, 2)

    def test_retype(self):
        editor = self.editor
        self.assertEqual([editor.retype(3, "x"), editor.retype(1, "x"),
                          editor.present_text.typed_keys], [3, 0, "ax"])
        with self.assertRaises(InvalidPlace):
            editor.retype(6, "x")

    def test_properties(self):
        self.editor.write("c")
        self.assertEqual([self.editor.present_text.size, self.editor.history], [7, [("write", "c")]])

    def test_undo_and_redo(self):
        editor = self.editor
        editor.write("c")
        self.assertEqual([editor.undo(), editor.undo(), editor.redo(), editor.present_text.size],
                         [True, False, True, 7])

    def test_apply(self):
        self.assertEqual(self.editor.apply(("write", "c"), ("retype", 0, "z")), [7, 3])

    def test_a_wrong_operation(self):
        with self.assertRaises(InvalidOperation) as caught:
            self.editor.apply(("write", "c"), ("write",))
        self.assertEqual(caught.exception.index, 1)

    def test_replay(self):
        editor = Editor.replay((("write", "ab"),), [("paste", 0, 0, 4)])
        self.assertEqual(editor.present_text.size, 6)

    def test_what_would_be(self):
        editor = self.editor
        self.assertEqual(list(editor.sizes_after(("write", "c"), ("paste", 0, 6, 10))), [7, 77])
        self.assertEqual([editor.is_possible(("paste", 0, 6, 1)),
                          editor.is_possible(("write", "c"), ("paste", 0, 6, 1))], [False, True])


class ReaderExamples(unittest.TestCase):
    def setUp(self):
        self.text = Text(("write", "abc"), ("paste", 1, 2, 2))
        self.reader = KeyReader(self.text)

    def test_see(self):
        self.assertEqual([self.reader.see(3, "x"), self.reader.see_word(4, "yx")], [1, 2])

    def test_wrong_words(self):
        with self.assertRaises(Contradiction):
            self.reader.see_word(3, "xyz")
        with self.assertRaises(InvalidPlace):
            self.reader.see_word(5, "xyz")

    def test_hear_alike(self):
        self.assertEqual([self.reader.hear_alike(0, 6), self.reader.hear_alike(1, 3)], [676, 676])

    def test_from_log(self):
        self.assertEqual(KeyReader.from_log(self.text, ("see", 0, "q")).known_letters, {0: "q"})

    def test_properties(self):
        reader = self.reader
        reader.see(5, "x")
        self.assertEqual([reader.known_letters, reader.observations, reader[1], reader[2]],
                         [{1: "x"}, [("see", 5, "x")], "x", None])

    def test_possible_texts(self):
        reader = self.reader
        self.assertEqual(reader.count_texts(), 17576)
        self.assertEqual([reader.is_surely_alike(1, 5), reader.is_surely_alike(1, 4)], [True, False])

    def test_what_is_missing(self):
        self.reader.see(5, "x")
        self.assertEqual(self.reader.fewest_places(), [0, 2])
        self.assertEqual(self.reader.text_with("o").typed_keys, "oxo")


class NotationExamples(unittest.TestCase):
    def test_rows(self):
        self.assertEqual(format_text(Text(("write", "ab"), ("paste", 0, 1, 2))), "write ab\npaste 0 1 2")
        text = parse_text("write ab\npaste 0 1 2")
        self.assertEqual([text.size, text(5)], [6, 1])

    def test_a_wrong_row(self):
        with self.assertRaises(NotationError) as caught:
            parse_text("write ab\npaste 0 01 2")
        self.assertEqual((caught.exception.row, caught.exception.word), (1, 2))

    def test_table(self):
        self.assertEqual(key_table(Text(("write", "a"), ("paste", 0, 0, 1999))),
                         "   0 a                      2,000")


class CodecExamples(unittest.TestCase):
    def test_values(self):
        self.assertEqual(unpack_bytes(pack_bytes([1, 255])), [1, 255])

    def test_a_text(self):
        text = decode_text(encode_text(Text(("write", "ab"), ("paste", 0, 1, 300))))
        self.assertEqual(text.steps, (("write", "ab"), ("paste", 0, 1, 300)))

    def test_a_wrong_byte(self):
        with self.assertRaises(DecodeError) as caught:
            decode_text(pack_bytes([80, 31]))
        self.assertEqual(caught.exception.offset, 1)


if __name__ == "__main__":
    unittest.main()
