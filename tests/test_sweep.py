"""Point 13: what sweep refuses, and what it means for calls, gives and rings."""

import unittest

from deathnotes.errors import Kept, NoHold, NoThing
from post import Post


class Refusals(unittest.TestCase):
    def setUp(self):
        self.post = Post(self, 2)
        self.ring, self.kept, gone = [self.post.make(0) for _ in range(3)]
        self.post.link(0, 0, self.ring)
        self.post.drop(0, gone)
        self.house = self.post.houses[0]

    def test_what_is_no_own_thing_is_refused(self):
        for number in (2, 3, 99, 100, -1):
            self.post.refused(NoThing, self.house.sweep, [number])
            self.post.refused(NoThing, self.house.sweep, [0, number])
            self.post.refused(NoThing, self.house.sweep, [number, 0])

    def test_what_the_house_itself_has_a_unit_of_is_refused(self):
        self.post.refused(Kept, self.house.sweep, [1])
        self.post.refused(Kept, self.house.sweep, [0, 1])
        self.post.refused(Kept, self.house.sweep, [1, 0])

    def test_no_thing_is_ahead_of_kept(self):
        self.post.refused(NoThing, self.house.sweep, [1, 2])
        self.post.refused(NoThing, self.house.sweep, [2, 1])
        self.post.refused(NoThing, self.house.sweep, [0, 1, 99])

    def test_a_thing_that_has_a_unit_of_it_keeps_it_from_nothing(self):
        self.post.link(0, 0, self.kept)
        self.post.sweep(0, [1])
        self.assertEqual(self.house.table(), ((), ((0, ((self.ring, 1), (self.kept, 1))),)))

    def test_a_swept_thing_is_none(self):
        self.post.sweep(0, [0])
        self.post.refused(NoThing, self.house.sweep, [0])
        self.post.refused(NoThing, self.house.link, 0, self.kept)

    def test_an_empty_list_sweeps_nothing(self):
        before = self.post.picture()
        self.post.sweep(0, [])
        self.assertEqual(self.post.picture(), before)

    def test_a_number_may_stand_in_the_list_twice(self):
        self.post.sweep(0, [0, 0])
        self.assertEqual(self.house.things(), [(1, 0)])
        self.assertEqual(self.post.make(0), (0, 3))


class Lent(unittest.TestCase):
    """A thing of house 0, of worth 10, of which only house 1 has units."""

    def setUp(self):
        self.post = Post(self, 3)
        self.handle = self.post.make(0, 10)
        for _ in range(3):
            self.post.give(0, self.handle, 1)
        self.post.calm()
        self.post.drop(0, self.handle)
        self.post.calm()

    def sweep(self):
        self.post.sweep(0, [0])

    def answers(self):
        self.post.calm()
        return self.post.houses[1].answers()

    def bring_calls(self):
        """Bring what asks house 0 for calls, and lose what it answers."""
        while self.post.way:
            when, letter = self.post.way.pop(0)
            if letter[0] == 0:
                self.post.hand(when, letter)

    def test_a_swept_thing_is_gone_whoever_has_units(self):
        self.sweep()
        self.assertEqual(self.post.houses[0].table(), ((), ()))
        self.post.calm()
        self.assertEqual(self.post.houses[0].table(), ((), ()))

    def test_who_has_units_may_drop_and_link_them(self):
        self.post.make(1)
        self.sweep()
        self.post.link(1, 0, self.handle)
        self.post.drop(1, self.handle)
        self.post.calm()
        self.post.unlink(1, 0, self.handle)
        self.post.drop(1, self.handle)
        self.post.drop(1, self.handle)
        self.post.refused(NoHold, self.post.houses[1].drop, self.handle)
        self.post.calm()

    def test_who_had_units_may_die(self):
        self.sweep()
        self.post.die(1)
        self.post.calm()
        self.assertEqual(self.post.houses[0].things(), [])

    def test_a_call_that_was_not_done_is_answered_dead(self):
        self.post.call(1, self.handle, 1)
        self.post.lose()
        self.sweep()
        self.assertEqual(self.answers(), [(0, "dead")])

    def test_a_call_that_comes_behind_the_sweep_is_answered_dead(self):
        self.post.call(1, self.handle, 1)
        self.sweep()
        self.post.call(1, self.handle, 1)
        self.assertEqual(self.answers(), [(0, "dead"), (1, "dead")])

    def test_a_call_that_was_done_is_answered_with_its_worth(self):
        self.post.call(1, self.handle, 1)
        self.bring_calls()
        self.assertEqual(self.post.houses[0].things(), [(0, 11)])
        self.sweep()
        self.post.call(1, self.handle, 5)
        self.post.lose()
        self.assertEqual(self.answers(), [(0, 11), (1, "dead")])

    def test_a_call_that_was_done_comes_again_behind_the_sweep(self):
        self.post.call(1, self.handle, 1)
        letters = list(self.post.way)
        self.bring_calls()
        self.sweep()
        for when, letter in letters * 2:
            self.post.hand(when, letter)
        self.bring_calls()
        self.assertEqual(self.answers(), [(0, 11)])
        for when, letter in list(enumerate(self.post.ever)):
            self.post.hand(when, letter)
        self.assertEqual(self.answers(), [(0, 11)])

    def test_a_call_and_a_drop_behind_it_find_the_thing_swept(self):
        self.post.call(1, self.handle, 1)
        for _ in range(3):
            self.post.drop(1, self.handle)
        self.post.lose()
        self.sweep()
        self.assertEqual(self.answers(), [(0, "dead")])

    def test_units_that_are_given_by_a_borrower_do_not_come(self):
        self.post.give(1, self.handle, 2)
        self.post.give(1, self.handle, 0)
        self.sweep()
        self.post.give(1, self.handle, 2)
        self.post.give(1, self.handle, 0)
        self.post.calm()
        self.assertEqual([house.count(self.handle) for house in self.post.houses], [0, 3, 0])

    def test_units_that_the_owner_took_on_but_that_were_lost_do_not_come(self):
        self.post.give(1, self.handle, 2)
        while self.post.way:
            when, letter = self.post.way.pop(0)
            if letter[0] != 2:
                self.post.hand(when, letter)
        self.sweep()
        self.post.calm()
        self.assertEqual(self.post.houses[2].count(self.handle), 0)

    def test_other_things_of_the_house_go_on(self):
        other = self.post.make(0, 5)
        self.post.give(0, other, 1)
        self.post.give(0, other, 2)
        self.post.lose()
        self.post.call(1, self.handle, 1)
        self.sweep()
        self.post.calm()
        self.post.call(1, other, 1)
        self.post.call(2, other, 1)
        self.assertEqual(self.answers()[0], (0, "dead"))
        self.assertEqual(sorted([self.post.houses[1].answers()[1][1], self.post.houses[2].answers()[0][1]]), [6, 7])


class Units(unittest.TestCase):
    def test_an_owners_gives_do_not_come(self):
        post = Post(self, 3)
        handle, other = post.make(0), post.make(0)
        post.give(0, handle, 1)
        post.give(0, other, 1)
        post.give(0, handle, 2)
        post.drop(0, handle)
        post.lose()
        post.sweep(0, [0])
        post.calm()
        self.assertEqual([house.count(handle) for house in post.houses], [0, 0, 0])
        self.assertEqual([house.count(other) for house in post.houses], [1, 1, 0])

    def test_the_units_of_a_swept_thing_are_given_up(self):
        post = Post(self, 3)
        handle, near, far = post.make(0), post.make(0), post.make(2)
        post.give(0, handle, 1)
        for _ in range(3):
            post.give(2, far, 0)
        post.calm()
        post.link(0, 0, near)
        for _ in range(3):
            post.link(0, 0, far)
        post.drop(0, handle)
        post.drop(2, far)
        post.calm()
        self.assertEqual([len(house.things()) for house in post.houses], [2, 0, 1])
        post.sweep(0, [0])
        self.assertEqual(post.houses[0].things(), [])
        post.lose()
        post.calm()
        self.assertEqual(post.houses[2].things(), [])

    def test_an_own_thing_may_still_have_units_of_a_swept_one(self):
        post = Post(self, 2)
        keeper, handle = post.make(0), post.make(0, 3)
        post.link(0, 0, handle)
        post.sweep(0, [1])
        post.unlink(0, 0, handle)
        self.assertEqual(post.houses[0].count(handle), 1)
        post.call(0, handle, 1)
        post.give(0, handle, 1)
        post.calm()
        self.assertEqual(post.houses[0].answers(), [(0, "dead")])
        self.assertEqual(post.houses[1].count(handle), 0)
        post.link(0, 0, handle)
        post.drop(0, keeper)
        post.calm()
        self.assertEqual(post.houses[0].table(), ((), ()))


class Rings(unittest.TestCase):
    def ring(self, many, row):
        """Make a ring of things of these houses, of which no house itself has a unit."""
        post = Post(self, many)
        handles = [post.make(house, 1) for house in row]
        for at, handle in enumerate(handles):
            holder = handles[at - 1]
            if holder[0] != handle[0]:
                post.give(handle[0], handle, holder[0])
                post.calm()
            post.link(holder[0], holder[1], handle)
        for handle in handles:
            if post.houses[handle[0]].count(handle):
                post.drop(handle[0], handle)
        post.calm()
        self.assertEqual(sum(len(house.things()) for house in post.houses), len(row))
        return post

    def test_rings_are_left_until_they_are_swept(self):
        for many, row in [(2, [0]), (2, [0, 0]), (2, [0, 1]), (3, [0, 1, 2]), (2, [0, 1, 0, 1]),
                          (8, [7, 0, 6, 1, 5, 2, 4, 3])]:
            post = self.ring(many, row)
            post.sweep_rings()
            self.assertEqual([house.things() for house in post.houses], [[]] * many)

    def test_what_only_a_ring_had_goes_and_what_others_had_stays(self):
        post = self.ring(3, [0, 1])
        tail, both, own = post.make(2, 1), post.make(2, 2), post.make(0, 3)
        post.give(2, tail, 0)
        post.give(2, both, 0)
        post.calm()
        post.link(0, 0, tail)
        post.link(0, 0, both)
        post.drop(2, tail)
        post.calm()
        self.assertEqual(post.houses[2].things(), [(0, 1), (1, 2)])
        post.sweep_rings()
        self.assertEqual(post.houses[0].table(), (((own, 1),), ((1, ()),)))
        self.assertEqual(post.houses[2].things(), [(1, 2)])

    def test_a_ring_that_a_house_comes_to_is_left(self):
        post = self.ring(3, [0, 1])
        key = post.make(0)
        post.unlink(0, 0, (1, 0))
        post.give(0, (1, 0), 2)
        post.link(0, 0, (1, 0))
        post.calm()
        post.drop(0, key)
        post.sweep_rings()
        self.assertEqual([len(house.things()) for house in post.houses], [1, 1, 0])

    def test_a_ring_over_a_dead_house_falls(self):
        post = self.ring(3, [0, 1, 2])
        post.die(1)
        post.calm()
        self.assertEqual([post.houses[0].things(), post.houses[2].things()], [[], []])


if __name__ == "__main__":
    unittest.main()
