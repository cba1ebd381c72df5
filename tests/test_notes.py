"""Point 14: tables as texts."""

import copy
import random
import unittest

from by_hand import tables_by_chance
from deathnotes.errors import BadTables, BadText, NoteError
from deathnotes.notes import read, written
from post import Post

# The same tables as a list and as a text.
TABLES = [
    ((((0, 0), 1), ((2, 7), 3)), ((0, ()), (10, (((0, 0), 99), ((0, 10), 1))))),
    None,
    ((), ((7, (((2, 7), 10),)), (99, ()))),
]
TEXT = """house 0.0:1 2.7:3
thing 0
thing 10 0.0:99 0.10:1
dead
house
thing 7 2.7:10
thing 99"""

# Words that are no numbers of one or two figures without a needless 0.
NO_NUMBERS = ["", "00", "01", "09", "100", "999", "000", "-1", "+1", "-", "1a", "a", "1_0", "0x", "1,", ".", ":", "1.", "1:",
              "house"]
NO_UNITS = ["", ".", ":", ".:", "2", "2.7", "2:3", "2:7.3", "2.7:", "2.:3", ".7:3", "2.7:3:1", "2.7.1:3", "2.7:3.1",
            "2..7:3", "2.7::3", "2,7:3", "2.7;3", "(2.7:3)", "2.7:3,", "2-7:3", "house", "thing", "dead", "0", "7"]


class Written(unittest.TestCase):
    def test_tables_are_written_as_rows(self):
        self.assertEqual(written(TABLES), TEXT)

    def test_a_dead_house_is_written_dead(self):
        self.assertEqual(written([None, None]), "dead\ndead")
        self.assertEqual(written([None, ((), ())]), "dead\nhouse")
        self.assertEqual(written([((), ())] * 8), "\n".join(["house"] * 8))

    def test_a_unit_is_written_house_thing_count(self):
        many = [None, None, ((((2, 7), 3),), ((7, ()),))]
        self.assertEqual(written(many), "dead\ndead\nhouse 2.7:3\nthing 7")

    def test_what_is_no_tables_is_refused(self):
        for tables, number in [([], 0), ([None], 1), ([None] * 9, 8), ([None, 0], 1), ([True, None], 0),
                               ([((((1, 0), 1),), ()), None], 0), ([None, ((((1, 0), 100),), ())], 1)]:
            before = copy.deepcopy(tables)
            with self.assertRaises(NoteError) as caught:
                written(tables)
            self.assertIs(type(caught.exception), BadTables)
            self.assertEqual(caught.exception.number, number)
            self.assertEqual(tables, before)

    def test_what_is_handed_in_is_not_changed(self):
        tables = copy.deepcopy(TABLES)
        self.assertEqual(written(tables), written(tables))
        self.assertEqual(tables, TABLES)


class Read(unittest.TestCase):
    def test_rows_are_read(self):
        self.assertEqual(read(TEXT), TABLES)
        self.assertEqual(read("house\nhouse"), [((), ()), ((), ())])
        self.assertEqual(read("\n".join(["dead"] * 8)), [None] * 8)

    def test_kinds_are_those_of_a_houses_table(self):
        def check(part):
            self.assertIn(type(part), (tuple, int))
            if isinstance(part, tuple):
                for inner in part:
                    check(inner)

        told = read(TEXT)
        self.assertIsInstance(told, list)
        for table in told:
            if table is not None:
                check(table)

    def test_what_is_told_may_be_changed(self):
        told = read(TEXT)
        told[0] = told[1] = 5
        self.assertEqual(read(TEXT), TABLES)

    def test_what_is_written_is_read_to_the_same(self):
        chance = random.Random(14)
        for at in range(1000):
            tables = tables_by_chance(chance, 2 + at % 7, chance.randint(0, 6), chance.randint(0, 5))
            self.assertEqual(read(written(tables)), tables)

    def test_what_houses_tell_is_written_and_read(self):
        post = Post(self, 3)
        mine, yours = post.make(0), post.make(2)
        post.give(0, mine, 2)
        post.give(0, mine, 2)
        post.calm()
        post.link(2, 0, mine)
        post.die(1)
        post.calm()
        self.assertEqual(written(post.tables()), "house 0.0:1\nthing 0\ndead\nhouse 0.0:1 2.0:1\nthing 0 0.0:1")
        self.assertEqual(read(written(post.tables())), post.tables())
        self.assertEqual(yours, (2, 0))


class BadTexts(unittest.TestCase):
    def refused(self, text, row):
        """Let read refuse this row."""
        with self.assertRaises(NoteError, msg=repr(text)) as caught:
            read(text)
        self.assertIs(type(caught.exception), BadText, repr(text))
        self.assertEqual(caught.exception.row, row, repr(text))

    def no_row(self, row):
        """Let this be refused as a row wherever it stands."""
        self.refused(row + "\nhouse", 0)
        self.refused("house\n" + row, 1)
        self.refused("house\nthing 0\n" + row + "\nhouse", 2)
        self.refused("house\nhouse\nthing 0\n" + row + "\nthing 1", 3)
        self.refused("house\ndead\n" + row, 2)

    def test_what_begins_otherwise_is_no_row(self):
        for row in ["", " ", "  ", "houses", "House", "HOUSE", "hous", "things 0", "Thing 0", "Dead", "DEAD", "none", "0", "0.0:1",
                    "-", "house0.0:1", "thing0", " house", " thing 0", " dead", "\\"]:
            self.no_row(row)

    def test_dead_stands_alone(self):
        for row in ["dead ", "dead 0", "dead 0.0:1", "dead dead", "dead house", "dead  "]:
            self.no_row(row)

    def test_a_thing_has_a_number(self):
        for row in ["thing", "thing ", "thing  ", "thing  0", "thing 0.0:1", "thing 0.0:1 0", "thing 0 0", "thing 0 1",
                    "thing thing 0"]:
            self.no_row(row)
        for word in NO_NUMBERS:
            self.no_row(f"thing {word}")
            self.no_row(f"thing {word} 0.0:1")

    def test_other_words_are_no_units(self):
        for word in NO_UNITS:
            for row in [f"house {word}", f"house 0.0:1 {word}", f"house {word} 0.0:1", f"thing 0 {word}",
                        f"thing 0 0.0:1 {word} 1.0:1"]:
                self.no_row(row)

    def test_other_words_are_no_numbers_of_units(self):
        for word in NO_NUMBERS:
            for unit in [f"{word}.0:1", f"0.{word}:1", f"0.0:{word}"]:
                self.no_row(f"house {unit}")
                self.no_row(f"thing 0 {unit}")

    def test_an_empty_word_is_none(self):
        for row in ["house ", "house  0.0:1", "house 0.0:1 ", "house 0.0:1  1.0:1", " house 0.0:1", "thing 0 ",
                    "thing 0  0.0:1", "thing 0 0.0:1 ", " thing 0 0.0:1"]:
            self.no_row(row)

    def test_a_thing_stands_behind_a_house_or_a_thing(self):
        self.refused("thing 0", 0)
        self.refused("thing 0\nhouse\nhouse", 0)
        self.refused("dead\nthing 0\nhouse", 1)
        self.refused("house\nthing 0\ndead\nthing 1", 3)
        self.refused("house\ndead\ndead\nthing 0 0.0:1", 3)
        self.assertEqual(read("dead\nhouse\nthing 0\nthing 1"), [None, ((), ((0, ()), (1, ())))])

    def test_an_empty_row_is_none(self):
        self.refused(TEXT + "\n", 7)
        self.refused("\n" + TEXT, 0)
        self.refused("house\n\nhouse", 1)
        self.refused("house\nhouse\n", 2)
        self.refused("\n", 0)
        self.refused("\n\n", 0)
        self.refused(" ", 0)

    def test_the_first_row_is_told(self):
        self.refused("house\nthing x\nthing y\nhouse z", 1)
        self.refused("house 0.0:100\nthing", 0)
        self.refused("house\nthing 0\nthing 0 0.0:01 0.00:1", 2)

    def test_rows_are_looked_at_ahead_of_tables(self):
        self.refused("house 9.0:1\nhouse 00.0:1", 1)
        self.refused("house 0.0:0\nhouse\ndead\nthing 0", 3)
        self.refused("x", 0)
        self.refused("\n".join(["dead"] * 20 + ["x"]), 20)


class BadTablesOfTexts(unittest.TestCase):
    def refused(self, text, number):
        """Let read refuse the tables that the text tells."""
        with self.assertRaises(NoteError, msg=repr(text)) as caught:
            read(text)
        self.assertIs(type(caught.exception), BadTables, repr(text))
        self.assertEqual(caught.exception.number, number, repr(text))

    def test_the_empty_text_is_no_tables(self):
        self.refused("", 0)

    def test_there_are_two_to_eight(self):
        self.refused("house", 1)
        self.refused("dead", 1)
        self.refused("house\nthing 0\nthing 1", 1)
        self.refused("house 7.7:7", 1)
        for many in (9, 10, 30):
            self.refused("\n".join(["house"] * many), 8)
            self.refused("\n".join(["dead"] * many), 8)

    def test_counts_are_1_to_99(self):
        self.refused("house 1.0:0\nhouse\nthing 0", 0)
        self.refused("house\nhouse\nthing 0 1.0:0", 1)
        for count in (1, 9, 10, 99):
            self.assertEqual(read(f"house 1.0:{count}\nhouse\nthing 0"), [((((1, 0), count),), ()), ((), ((0, ()),))])

    def test_houses_beyond_the_tables_are_none(self):
        for house in (2, 7, 8, 9, 10, 99):
            self.refused(f"house\nhouse {house}.0:1", 1)
            self.refused(f"house\nthing 0 {house}.0:1\nhouse", 0)

    def test_words_out_of_order_and_told_twice_are_no_table(self):
        end = "\nhouse\nthing 2\nthing 10"
        self.assertEqual(len(read("house 1.2:1 1.10:1" + end)), 2)
        for units in ["1.10:1 1.2:1", "1.2:1 1.2:1", "1.2:1 1.2:2", "1.10:1 1.2:1 1.10:1"]:
            self.refused(f"house {units}" + end, 0)
            self.refused(f"house\nthing 0 {units}" + end, 0)
        self.refused("house\nhouse\nthing 10\nthing 2", 1)
        self.refused("house\nhouse\nthing 10\nthing 10", 1)
        self.refused("house\nhouse\nthing 10\nthing 10 1.10:1", 1)

    def test_a_unit_of_what_does_not_stand_is_refused(self):
        self.refused("house 0.0:1\nhouse", 0)
        self.refused("house\nthing 0 0.99:1\nhouse", 0)
        self.refused("dead\nhouse 0.0:1", 1)
        self.refused("house\nthing 0\nhouse 1.0:1", 1)

    def test_what_is_no_table_is_ahead_of_what_does_not_stand(self):
        self.refused("house 0.0:1\nhouse 9.0:1", 1)
        self.refused("house 9.0:1\nhouse 0.0:0", 0)


if __name__ == "__main__":
    unittest.main()
