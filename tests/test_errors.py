"""The refusals of the interface: their classes and fields."""

import unittest

from deathnotes import errors

NAMES = ["BadHouse", "BadWorth", "BadHandle", "Full", "NoHold", "NoThing", "NoLink", "Kept",
         "BadLetter", "BadTables", "BadText"]


class Errors(unittest.TestCase):
    def test_a_refusal_is_a_value_error(self):
        self.assertTrue(issubclass(errors.NoteError, ValueError))

    def test_each_stands_under_the_refusal_and_none_under_another_one(self):
        for name in NAMES:
            kind = getattr(errors, name)
            self.assertTrue(issubclass(kind, errors.NoteError), name)
            for other in NAMES:
                self.assertEqual(issubclass(kind, getattr(errors, other)), name == other, (name, other))

    def test_all_are_defined_in_their_file(self):
        for name in ["NoteError", *NAMES]:
            self.assertEqual(getattr(errors, name).__module__, "deathnotes.errors")

    def test_tables_tell_their_number(self):
        self.assertEqual(errors.BadTables(8).number, 8)

    def test_texts_tell_their_row(self):
        self.assertEqual(errors.BadText(0).row, 0)


if __name__ == "__main__":
    unittest.main()
