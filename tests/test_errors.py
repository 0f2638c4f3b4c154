"""The exceptions: their classes and attributes (the interface)."""

import unittest

from pastekeys import errors
from pastekeys.errors import (DecodeError, InvalidChanges, InvalidOperation, InvalidStep,
                              NotationError, TextError)

PLAIN = ["TooLong", "InvalidPlace", "InvalidKey", "InvalidLetter", "InvalidNumber",
         "AlreadyOpen", "Contradiction", "InvalidCount"]
WITH_ATTRIBUTES = ["InvalidStep", "InvalidChanges", "InvalidOperation", "NotationError", "DecodeError"]


class Errors(unittest.TestCase):
    def test_all_are_direct_subclasses(self):
        self.assertEqual(TextError.__bases__, (ValueError,))
        for name in PLAIN + WITH_ATTRIBUTES:
            self.assertEqual(getattr(errors, name).__bases__, (TextError,), name)

    def test_no_further_ones(self):
        found = [name for name, value in vars(errors).items()
                 if isinstance(value, type) and issubclass(value, Exception)]
        self.assertEqual(sorted(found), sorted(PLAIN + WITH_ATTRIBUTES + ["TextError"]))

    def test_index(self):
        for error in (InvalidStep, InvalidChanges, InvalidOperation):
            self.assertEqual(error(4).index, 4)
            self.assertEqual(error(index=5).index, 5)

    def test_row_and_word(self):
        error = NotationError(2, 3)
        self.assertEqual((error.row, error.word), (2, 3))

    def test_offset(self):
        self.assertEqual(DecodeError(7).offset, 7)


if __name__ == "__main__":
    unittest.main()
