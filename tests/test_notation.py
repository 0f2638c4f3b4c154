"""Rows of texts, and the table of keys (point 14)."""

import random
import unittest

from plain import random_steps
from pastekeys.counting import key_counts
from pastekeys.errors import InvalidStep, NotationError, TooLong
from pastekeys.notation import format_text, key_table, parse_text
from pastekeys.texts import Text

LARGEST = (("write", "a"), ("paste", 0, 0, 10 ** 9 - 1), ("paste", 0, 10 ** 9 - 1, 10 ** 9 - 1))


class Case(unittest.TestCase):
    def wrong_at(self, row, word, rows):
        with self.assertRaises(NotationError) as caught:
            parse_text(rows)
        self.assertEqual((caught.exception.row, caught.exception.word), (row, word), rows)

    def fails(self, error, rows, **attributes):
        with self.assertRaises(error) as caught:
            parse_text(rows)
        self.assertIs(caught.exception.__class__, error)
        self.assertEqual(vars(caught.exception), attributes)


class Rows(Case):
    def test_format(self):
        self.assertEqual(format_text(Text()), "")
        self.assertEqual(format_text(Text.of_word("abc")), "write abc")
        self.assertEqual(format_text(Text(*LARGEST)),
                         "write a\npaste 0 0 999999999\npaste 0 999999999 999999999")
        self.assertEqual(format_text(Text(("write", "paste"), ("paste", 0, 4, 1), ("write", "write"))),
                         "write paste\npaste 0 4 1\nwrite write")

    def test_parse(self):
        self.assertEqual(parse_text(""), Text())
        self.assertEqual(parse_text("write z"), Text.of_word("z"))
        self.assertEqual(parse_text("write " + "z" * 20 + "\npaste 10 19 1000000000"),
                         Text(("write", "z" * 20), ("paste", 10, 19, 10 ** 9)))
        self.assertEqual(parse_text(format_text(Text(*LARGEST))), Text(*LARGEST))
        self.assertEqual(parse_text("write a\n" * 29 + "paste 0 28 1").size, 58)

    def test_there_and_back(self):
        choice = random.Random(15)
        for _ in range(200):
            text = Text(*random_steps(choice, 30, 10 ** 6))
            rows = format_text(text)
            self.assertEqual(rows, "\n".join(" ".join(map(str, step)) for step in text.steps))
            self.assertEqual(parse_text(rows), text)
            self.assertEqual(format_text(parse_text(rows)), rows)

    def test_numbers_are_numbers(self):
        step = parse_text("write ab\npaste 0 1 2").steps[1]
        self.assertEqual([part.__class__ for part in step], [str, int, int, int])


class WrongRows(Case):
    def test_empty_rows(self):
        self.wrong_at(0, 0, "\n")
        self.wrong_at(0, 0, "\nwrite a")
        self.wrong_at(1, 0, "write a\n")
        self.wrong_at(1, 0, "write a\n\nwrite b")
        self.wrong_at(0, 0, " ")

    def test_spaces(self):
        self.wrong_at(0, 0, " write a")
        self.wrong_at(0, 1, "write  a")
        self.wrong_at(0, 2, "write a ")
        self.wrong_at(0, 2, "write a  ")
        self.wrong_at(0, 1, "write ")
        self.wrong_at(1, 0, "write a\n paste 0 0 1")
        self.wrong_at(1, 1, "write a\npaste  0 0 1")
        self.wrong_at(1, 2, "write a\npaste 0  0 1")
        self.wrong_at(1, 3, "write a\npaste 0 0  1")
        self.wrong_at(1, 4, "write a\npaste 0 0 1 ")
        for sign in "\t\r\v\f\u00a0\u2028":
            self.wrong_at(0, 0, "write" + sign + "a")
            self.wrong_at(0, 1, "write a" + sign)

    def test_first_words(self):
        for word in ("Write", "writ", "writes", "retype", "0", "a", "PASTE", "pasted", "'write'", "\u00e4"):
            self.wrong_at(0, 0, word + " a")
            self.wrong_at(1, 0, "write a\n" + word + " 0 0 1")
            self.wrong_at(0, 0, word)

    def test_too_few_and_too_many(self):
        self.wrong_at(0, 1, "write")
        self.wrong_at(0, 2, "write a b")
        self.wrong_at(0, 2, "write a 0 1")
        self.wrong_at(0, 1, "paste")
        self.wrong_at(0, 2, "paste 0")
        self.wrong_at(0, 3, "paste 0 0")
        self.wrong_at(0, 4, "paste 0 0 1 1")
        self.wrong_at(0, 4, "paste 0 0 1 x y")

    def test_written_words(self):
        for word in ("a" * 21, "A", "a1", "0", "a-b", "ab\u00e4", "\u00df", "aB"):
            self.wrong_at(0, 1, "write " + word)
            self.wrong_at(0, 1, "write " + word + " more")

    def test_numbers(self):
        wrong = ["00", "01", "-1", "+1", "1.0", "a", "0x1", "1_0", "1" * 19, "0" * 18, "\u0661", "\u00b2", "\uff11",
                 "True", "1,000", "1e3", "012"]
        for number in wrong:
            self.wrong_at(0, 1, f"paste {number} 0 1")
            self.wrong_at(0, 2, f"paste 0 {number} 1")
            self.wrong_at(0, 3, f"paste 0 0 {number}")
            self.wrong_at(0, 1, f"paste {number} {number} {number} {number}")

    def test_numbers_of_many_figures(self):
        self.fails(InvalidStep, "paste " + "9" * 18 + " 0 1", index=0)
        self.wrong_at(0, 1, "paste " + "9" * 19 + " 0 1")
        self.fails(InvalidStep, "write a\npaste 0 " + "9" * 18 + " 1", index=1)
        self.wrong_at(1, 2, "write a\npaste 0 " + "1" * 19 + " 1")
        self.fails(InvalidStep, "write a\npaste 0 0 " + "9" * 18, index=1)
        self.wrong_at(1, 3, "write a\npaste 0 0 1" + "0" * 18)
        self.assertEqual(parse_text(format_text(Text(*LARGEST[:2])) + "\npaste 999999999 999999999 1").size,
                         10 ** 9 + 1)

    def test_first_wrong_row(self):
        self.wrong_at(1, 3, "write a\npaste 0 0\nwrite\n")
        self.wrong_at(2, 1, "write a\nwrite b\nwrite\npaste")

    def test_rows_before_steps(self):
        # The rows are looked at before places and sizes.
        self.wrong_at(1, 1, "paste 0 0 1\nwrite A")
        self.wrong_at(31, 0, "write a\n" * 31 + "x")
        self.wrong_at(4, 2, format_text(Text(*LARGEST)) + "\nwrite a\nwrite a b")
        self.fails(InvalidStep, "paste 0 0 1\nwrite a", index=0)
        self.fails(InvalidStep, "write a\npaste 0 1 1", index=1)
        self.fails(InvalidStep, "write ab\npaste 1 0 1", index=1)
        self.fails(InvalidStep, "write a\npaste 0 0 0", index=1)
        self.fails(InvalidStep, "write a\npaste 0 0 1000000001", index=1)
        self.fails(InvalidStep, "write a\n" * 30 + "write a", index=30)
        self.fails(TooLong, format_text(Text(*LARGEST)) + "\nwrite a")
        self.fails(TooLong, format_text(Text(*LARGEST)) + "\nwrite a\npaste 0 0 0")
        self.fails(InvalidStep, format_text(Text(*LARGEST)) + "\npaste 0 0 0\nwrite a", index=3)

    def test_no_rows(self):
        for wrong in (None, True, 5, (), [], ["write a"], ("write a",)):
            self.wrong_at(0, 0, wrong)


class Table(Case):
    def test_no_keys(self):
        self.assertEqual(key_table(Text()), "")

    def test_rows(self):
        table = key_table(Text(("write", "ab"), ("paste", 1, 1, 998), ("paste", 1, 1, 1), ("paste", 0, 0, 1)))
        self.assertEqual(table, "   0 a " + " " * 25 + "2\n   1 b " + " " * 21 + "1,000")

    def test_groups_of_figures(self):
        for times, shown in ((1, "2"), (98, "99"), (998, "999"), (999, "1,000"), (99999, "100,000"),
                             (999999, "1,000,000"), (10 ** 9, "1,000,000,001")):
            row = key_table(Text(("write", "q"), ("paste", 0, 0, times)))
            self.assertEqual(row, "   0 q " + shown.rjust(26))
            self.assertEqual(len(row), 33)

    def test_largest_count(self):
        self.assertEqual(key_table(Text(*LARGEST)), "   0 a  1,000,000,000,000,000,000")

    def test_key_numbers(self):
        steps = [("write", "abcdefghijklmnopqrst")] * 29 + [("paste", 0, 579, 3)]
        rows = key_table(Text(*steps)).split("\n")
        self.assertEqual(len(rows), 580)
        end = " " * 25 + "4"
        self.assertEqual([rows[0], rows[9], rows[10], rows[99], rows[100], rows[579]],
                         ["   0 a " + end, "   9 j " + end, "  10 k " + end, "  99 t " + end, " 100 a " + end,
                          " 579 t " + end])

    def test_against_the_counts(self):
        choice = random.Random(16)
        for _ in range(50):
            text = Text(*random_steps(choice, 12, 10 ** 6, "abcz"))
            rows = key_table(text).split("\n") if text.size else []
            counts = key_counts(text, 0, text.size - 1)
            self.assertEqual([int(row[:4]) for row in rows], list(range(len(counts))))
            self.assertEqual("".join(row[5] for row in rows), text.typed_keys)
            self.assertEqual([int(row[7:].replace(",", "")) for row in rows], counts)


if __name__ == "__main__":
    unittest.main()
