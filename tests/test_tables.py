"""Point 11: what tables are, and which one is refused first."""

import copy
import unittest

from deathnotes.errors import BadTables, NoteError
from deathnotes.houses import House
from deathnotes.notes import written
from deathnotes.tables import rings, why
from post import Post

EMPTY = ((), ())

# What is no table, however many houses there are.
NO_TABLES = [
    # No pair of tuples.
    True, False, 0, 1, -1, 7, (), (0,), ((),), ((), (), ()), (0, 0), (0, ()), ((), 0), (True, ()), ((), False),
    # Units that are none.
    ((0,), ()), ((True,), ()), (((),), ()), (((0, 0),), ()), ((((0, 0),),), ()), ((((0, 0), 1, 1),), ()),
    (((0, 0), 1), ()), (((1, (0, 0)),), ()), ((0, 0, 1), ()),
    # Counts that are none.
    ((((0, 0), 0),), ()), ((((0, 0), 100),), ()), ((((0, 0), -1),), ()), ((((0, 0), True),), ()),
    ((((0, 0), ()),), ()), ((((0, 0), (1,)),), ()),
    # Handles that are none.
    (((0, 1),), ()), (((True, 1),), ()), ((((), 1),), ()), ((((0,), 1),), ()), ((((0, 0, 0), 1),), ()),
    ((((8, 0), 1),), ()), ((((99, 0), 1),), ()), ((((-1, 0), 1),), ()), ((((0, 100), 1),), ()),
    ((((0, -1), 1),), ()), ((((False, 0), 1),), ()), ((((0, False), 1),), ()), ((((True, 0), 1),), ()),
    (((((0, 0), 0), 1),), ()), ((((0, (0,)), 1),), ()),
    # Units that do not rise.
    ((((0, 0), 1), ((0, 0), 1)), ()), ((((0, 0), 1), ((0, 0), 2)), ()), ((((1, 0), 1), ((0, 0), 1)), ()),
    ((((0, 0), 1), ((1, 0), 1), ((0, 0), 1)), ()),
    # Things that are none.
    ((), (0,)), ((), (True,)), ((), ((),)), ((), ((0,),)), ((), ((0, (), ()),)), ((), (0, ())), ((), ((0, 0),)),
    ((), ((0, False),)), ((), (((0, 0), ()),)),
    # Their numbers.
    ((), ((100, ()),)), ((), ((-1, ()),)), ((), ((False, ()),)), ((), ((True, ()),)), ((), (((), ()),)),
    # Things that do not rise.
    ((), ((0, ()), (0, ()))), ((), ((1, ()), (0, ()))), ((), ((0, ()), (2, ()), (1, ()))),
    # What things have.
    ((), ((0, (0,)),)), ((), ((0, ((0, 0),)),)), ((), ((0, (((0, 0), 0),)),)), ((), ((0, (((0, 0), 100),)),)),
    ((), ((0, (((0, 0), True),)),)), ((), ((0, (((8, 0), 1),)),)), ((), ((0, (((0, 100), 1),)),)),
    ((), ((0, (((0, 0), 1), ((0, 0), 1))),)), ((), ((0, (((1, 0), 1), ((0, 0), 1))),)),
    ((), ((0, ()), (1, (((0, True), 1),)))),
]


def with_things(many):
    """Make tables of so many houses, of which each has a thing 0 and one unit of it."""
    return [((((house, 0), 1),), ((0, ()),)) for house in range(many)]


class Refusals(unittest.TestCase):
    def refused(self, tables, number):
        """Let all that takes tables refuse these with this number, and change nothing."""
        before = copy.deepcopy(tables)
        for deed, handed in [(rings, ()), (why, ((0, 0),)), (why, ((9, 100),)), (why, (5,)), (written, ())]:
            with self.assertRaises(NoteError, msg=(deed, tables)) as caught:
                deed(tables, *handed)
            self.assertIs(type(caught.exception), BadTables)
            self.assertEqual(caught.exception.number, number, tables)
            self.assertIsInstance(caught.exception.number, int)
        self.assertEqual(tables, before)
        self.assertEqual(repr(tables), repr(before))

    def taken(self, tables):
        before = copy.deepcopy(tables)
        rings(tables)
        why(tables, (0, 0))
        written(tables)
        self.assertEqual(tables, before)

    def test_two_to_eight_tables_are_taken(self):
        for many in range(2, 9):
            self.taken(with_things(many))
            self.taken([EMPTY] * many)
            self.taken([None] * many)

    def test_fewer_than_two_are_refused_with_how_many_there_are(self):
        for table in [EMPTY, None, 0, True, (), ((((5, 0), 1),), ())]:
            self.refused([table], 1)
        self.refused([], 0)

    def test_more_than_eight_are_refused_with_8(self):
        for many in (9, 10, 20, 100):
            for table in [EMPTY, None, 0, True, ()]:
                self.refused([table] * many, 8)
            self.refused([0] + [EMPTY] * (many - 1), 8)
            self.refused(with_things(many), 8)

    def test_what_is_no_table_is_refused_with_its_place(self):
        for many in (2, 8):
            for place in (0, 1, many - 1):
                for table in NO_TABLES:
                    tables = with_things(many)
                    tables[place] = table
                    self.refused(tables, place)

    def test_the_first_that_is_no_table_is_told(self):
        tables = with_things(4)
        tables[3] = True
        self.refused(tables, 3)
        tables[1] = ((((0, 0), 100),), ())
        self.refused(tables, 1)
        tables[2] = 0
        self.refused(tables, 1)
        tables[0] = ()
        self.refused(tables, 0)

    def test_houses_beyond_the_tables_are_none(self):
        for many in range(2, 8):
            tables = with_things(8)[:many]
            for house in range(many, 9):
                wrong = list(tables)
                wrong[1] = ((((house, 0), 1),), ())
                self.refused(wrong, 1)
                wrong[1] = ((), ((0, (((house, 0), 1),)),))
                self.refused(wrong, 1)

    def test_a_unit_of_what_does_not_stand_is_refused(self):
        for handle in [(0, 1), (0, 99), (1, 1), (2, 0), (3, 0)]:
            for place in (0, 1, 3):
                for table in [(((handle, 1),), ((0, ()),)), ((), ((0, ((handle, 1),)),))]:
                    tables = with_things(4)
                    tables[2], tables[3] = None, EMPTY
                    # House 3 has no thing, so its table may have none either.
                    tables[place] = table if place < 3 else (((handle, 1),), ())
                    self.refused(tables, place)

    def test_a_unit_of_a_dead_houses_thing_is_refused(self):
        tables = with_things(3)
        tables[0] = None
        self.taken(tables)
        tables[2] = ((), ((0, (((0, 0), 1),)),))
        self.refused(tables, 2)
        tables[1] = ((((0, 0), 1),), ())
        self.refused(tables, 1)

    def test_what_is_no_table_is_ahead_of_what_does_not_stand(self):
        tables = with_things(3)
        tables[0] = ((((0, 1), 1),), ())
        tables[2] = ((((0, 0), 0),), ())
        self.refused(tables, 2)
        tables[2] = EMPTY
        self.refused(tables, 0)

    def test_the_first_with_a_unit_of_what_does_not_stand_is_told(self):
        tables = with_things(8)
        tables[7] = ((((7, 0), 1),), ())
        self.refused(tables, 7)
        tables[4] = ((), ((0, ()), (1, (((4, 0), 1), ((7, 0), 99)))))
        self.refused(tables, 4)

    def test_edges_are_taken(self):
        self.taken([((((0, 0), 1), ((0, 99), 99)), ((0, ()), (99, (((0, 0), 99), ((0, 99), 1))))), None])
        full = tuple((number, ()) for number in range(100))
        self.taken([((), full), ((), full)])
        handles = tuple(((house, number), 99) for house in range(8) for number in range(100))
        self.taken([(handles, tuple((number, handles) for number in range(100)))] + [((), full)] * 7)


class Houses(unittest.TestCase):
    """The tables that houses tell are such."""

    def test_new_houses_tables_are_such(self):
        for many in range(2, 9):
            self.assertEqual(rings([House(number, many).table() for number in range(many)]), [])

    def test_the_tables_of_houses_at_rest_are_such(self):
        post = Post(self, 3)
        mine, yours = post.make(0), post.make(1)
        post.give(0, mine, 1)
        post.give(1, yours, 2)
        post.calm()
        post.link(1, 0, mine)
        post.drop(0, mine)
        post.calm()
        self.assertEqual(rings(post.tables()), [])
        self.assertEqual(why(post.tables(), mine), (1, yours, mine))
        post.drop(1, yours)
        post.die(1)
        post.calm()
        self.assertEqual(post.tables(), [EMPTY, None, EMPTY])
        self.assertEqual(rings(post.tables()), [])


if __name__ == "__main__":
    unittest.main()
