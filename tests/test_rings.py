"""Points 12 and 13: rows by which things are come to, rings, and how sweeping them ends."""

import copy
import random
import unittest

from by_hand import come_to_by_hand, links_by_hand, tables_by_chance, why_by_hand
from deathnotes.errors import BadHandle, BadTables, NoteError
from deathnotes.tables import rings, why
from post import Post, Run


def table(units, **things):
    """Make a table of units and of what things, named such as t5, have: each handle with count 1."""
    def counted(handles):
        return tuple((handle, 1) for handle in handles)

    return (counted(units), tuple((int(name[1:]), counted(links)) for name, links in things.items()))


class Why(unittest.TestCase):
    def test_a_house_has_a_unit_itself(self):
        tables = [table([(0, 0)], t0=[]), table([])]
        self.assertEqual(why(tables, (0, 0)), (0, (0, 0)))
        self.assertIsInstance(why(tables, (0, 0)), tuple)

    def test_another_house_has_a_unit(self):
        self.assertEqual(why([table([], t0=[]), table([(0, 0)])], (0, 0)), (1, (0, 0)))

    def test_a_row_goes_over_things_of_several_houses(self):
        tables = [table([(1, 5)], t99=[(2, 0)]), table([], t5=[(0, 99)]), table([], t0=[])]
        self.assertEqual(why(tables, (1, 5)), (0, (1, 5)))
        self.assertEqual(why(tables, (0, 99)), (0, (1, 5), (0, 99)))
        self.assertEqual(why(tables, (2, 0)), (0, (1, 5), (0, 99), (2, 0)))

    def test_the_shortest_row_is_told_though_it_is_not_the_first(self):
        tables = [table([(0, 0)], t0=[(0, 1)], t1=[(0, 2)], t2=[]), table([(1, 9)], t9=[(0, 2)])]
        self.assertEqual(why(tables, (0, 2)), (1, (1, 9), (0, 2)))
        tables[1] = table([(0, 2), (1, 9)], t9=[(0, 2)])
        self.assertEqual(why(tables, (0, 2)), (1, (0, 2)))

    def test_of_several_houses_the_first_is_told(self):
        tables = [None, table([(3, 0)]), table([(3, 0)]), table([(3, 0)], t0=[])]
        self.assertEqual(why(tables, (3, 0)), (1, (3, 0)))

    def test_of_several_first_things_the_first_is_told(self):
        tables = [table([(0, 1), (0, 2), (1, 0)], t1=[], t2=[(1, 7)], t10=[(1, 7)]), table([(0, 10)], t0=[(1, 7)], t7=[])]
        self.assertEqual(why(tables, (1, 7)), (0, (0, 2), (1, 7)))

    def test_of_several_rows_the_first_step_that_differs_counts(self):
        # Thing 1.0 is ahead of 1.1, but it is found through 0.1, behind 0.0.
        tables = [table([(0, 0), (0, 1)], t0=[(1, 1)], t1=[(1, 0)]), table([], t0=[(1, 5)], t1=[(1, 5)], t5=[])]
        self.assertEqual(why(tables, (1, 5)), (0, (0, 0), (1, 1), (1, 5)))

    def test_numbers_count_and_not_figures(self):
        tables = [table([(0, 2), (0, 10)], t2=[(0, 50)], t10=[(0, 50)], t50=[]), table([])]
        self.assertEqual(why(tables, (0, 50)), (0, (0, 2), (0, 50)))

    def test_none_for_what_is_not_come_to(self):
        tables = [table([(0, 0)], t0=[], t1=[(0, 2)], t2=[(0, 1)], t3=[(0, 0)], t4=[(0, 4)]), table([])]
        for thing in (1, 2, 3, 4):
            self.assertIsNone(why(tables, (0, thing)))

    def test_none_for_what_does_not_stand(self):
        tables = [table([(0, 0)], t0=[]), None, table([])]
        for handle in [(0, 1), (0, 99), (1, 0), (1, 99), (2, 0), (2, 99)]:
            self.assertIsNone(why(tables, handle))

    def test_what_is_no_handle_is_refused(self):
        for many in (2, 8):
            tables = [table([], t0=[])] + [table([])] * (many - 1)
            before = copy.deepcopy(tables)
            for handle in [0, 7, -1, (), (0,), (0, 0, 0), (0, (0,)), ((0,), 0), ((0, 0), (0, 0)), ((0, 0),),
                           (-1, 0), (0, -1), (many, 0), (99, 0), (0, 100), (many, 100)]:
                with self.assertRaises(NoteError) as caught:
                    why(tables, handle)
                self.assertIs(type(caught.exception), BadHandle, handle)
            self.assertEqual(tables, before)
            self.assertIsNone(why(tables, (many - 1, 99)))

    def test_tables_are_looked_at_ahead_of_the_handle(self):
        self.assertRaises(BadTables, why, [table([])], (0, 100))
        self.assertRaises(BadTables, why, [table([]), 0], 5)
        self.assertRaises(BadTables, why, [table([(1, 0)]), table([])], ())

    def test_a_row_over_all_things(self):
        tables = [((((0, 0), 1),) if house == 0 else (), tuple(
            (thing, (((house, thing + 1), 1),) if thing < 99 else (((house + 1, 0), 1),) if house < 7 else ())
            for thing in range(100))) for house in range(8)]
        row = why(tables, (7, 99))
        self.assertEqual(row, (0, *((house, thing) for house in range(8) for thing in range(100))))
        self.assertEqual(rings(tables), [])
        self.assertEqual(rings([((), tables[0][1]), *tables[1:]]), list(row[1:]))


class Rings(unittest.TestCase):
    def test_what_is_come_to_is_no_ring(self):
        tables = [table([(1, 0)], t0=[(0, 0)]), table([], t0=[(0, 0), (1, 0)])]
        self.assertEqual(rings(tables), [])

    def test_things_that_have_only_one_another(self):
        self.assertEqual(rings([table([], t0=[(0, 0)]), table([])]), [(0, 0)])
        self.assertEqual(rings([table([], t3=[(1, 4)]), table([], t4=[(0, 3)])]), [(0, 3), (1, 4)])

    def test_they_rise_by_their_numbers(self):
        tables = [table([], t2=[], t10=[]), None, table([], t0=[(0, 10)], t9=[], t99=[(2, 9)])]
        self.assertEqual(rings(tables), [(0, 2), (0, 10), (2, 0), (2, 9), (2, 99)])

    def test_what_only_a_ring_has_is_not_come_to(self):
        tables = [table([(1, 1)], t0=[(0, 0), (0, 1)], t1=[(1, 0), (1, 1)]), table([], t0=[], t1=[])]
        self.assertEqual(rings(tables), [(0, 0), (0, 1), (1, 0)])

    def test_a_things_own_unit_does_not_come_to_it(self):
        self.assertEqual(rings([table([], t0=[(0, 0)], t1=[]), None]), [(0, 0), (0, 1)])

    def test_nothing_stands(self):
        for many in (2, 8):
            self.assertEqual(rings([table([])] * many), [])
            self.assertEqual(rings([None] * many), [])

    def test_what_is_told_may_be_changed(self):
        tables = [table([], t0=[(0, 0)]), table([])]
        told = rings(tables)
        self.assertIsInstance(told, list)
        told.append("more")
        self.assertEqual(rings(tables), [(0, 0)])


class Chance(unittest.TestCase):
    def test_tables_by_chance(self):
        chance = random.Random(12)
        seen = set()
        for at in range(1500):
            tables = tables_by_chance(chance, 2 + at % 7, chance.randint(0, 5), chance.randint(0, 4))
            before = copy.deepcopy(tables)
            found = come_to_by_hand(tables)
            standing = links_by_hand(tables)
            self.assertEqual(rings(tables), sorted(set(standing) - found), tables)
            for handle in standing:
                row = why(tables, handle)
                self.assertEqual(row, why_by_hand(tables, handle), tables)
                self.assertEqual(row is not None, handle in found)
                seen.add(len(row) if row else 0)
            self.assertEqual(tables, before)
        self.assertLessEqual({0, 2, 3, 4, 5, 6}, seen)


class Swept(unittest.TestCase):
    """Runs of houses come to rest, and sweep what rings tells of their own."""

    def runs(self, seeds, deaths):
        swept = 0
        for seed in seeds:
            with self.subTest(seed=seed):
                run = Run(self, seed, 2 + seed % 7, deaths, False, 6)
                # More links make more rings.
                run.deeds.append((run.link, 10))
                for _ in range(3):
                    run.run(70)
                    swept += run.sweep_rings()
        self.assertGreater(swept, len(seeds))

    def test_rings_are_swept_and_what_is_come_to_is_left(self):
        self.runs(range(6000, 6060), False)

    def test_rings_are_swept_where_houses_died(self):
        self.runs(range(7000, 7080), True)

    def test_what_is_left_goes_on(self):
        post = Post(self, 2)
        one, left, two = post.make(0, 1), post.make(0, 3), post.make(1, 2)
        for handle, to in [(one, 1), (two, 0), (left, 1)]:
            post.give(handle[0], handle, to)
        post.calm()
        post.link(0, 0, two)
        post.link(1, 0, one)
        post.drop(0, one)
        post.drop(1, two)
        post.calm()
        self.assertEqual(rings(post.tables()), [one, two])
        self.assertEqual(post.sweep_rings(), 2)
        self.assertEqual(post.tables(), [table([left], t1=[]), table([left])])
        post.call(1, left, 4)
        post.calm()
        self.assertEqual(post.houses[1].answers(), [(0, 7)])


if __name__ == "__main__":
    unittest.main()
