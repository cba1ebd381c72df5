"""Points 6 and 7: watches, notes, and what the death of a house means."""

import unittest

from deathnotes.errors import BadHouse, NoHold
from post import Post


class Watching(unittest.TestCase):
    def lent(self):
        """Make things of houses 1 and 2 of which house 0 has units."""
        post = Post(self, 3)
        handles = [post.make(house) for house in (2, 1, 1, 2)]
        for handle in handles:
            post.give(handle[0], handle, 0)
        post.calm()
        return post

    def test_notes_tell_the_watched_handles_of_the_dead(self):
        post = self.lent()
        for handle in [(2, 1), (1, 1), (2, 0), (1, 1)]:
            post.watch(0, handle)
        self.assertEqual(post.houses[0].notes(), [])
        post.die(2)
        self.assertEqual(post.houses[0].notes(), [])
        post.tell(0, 2)
        self.assertEqual(post.houses[0].notes(), [(2, 0), (2, 1)])
        post.tell(0, 2)
        self.assertEqual(post.houses[0].notes(), [(2, 0), (2, 1)])
        post.die(1)
        post.tell(0, 1)
        self.assertEqual(post.houses[0].notes(), [(1, 1), (2, 0), (2, 1)])

    def test_what_is_not_watched_is_not_noted(self):
        post = self.lent()
        post.watch(0, (2, 0))
        post.die(1)
        post.tell(0, 1)
        self.assertEqual(post.houses[0].notes(), [])

    def test_a_handle_is_watched_also_when_its_unit_was_dropped(self):
        post = self.lent()
        post.watch(0, (1, 0))
        post.drop(0, (1, 0))
        post.calm()
        post.die(1)
        post.tell(0, 1)
        self.assertEqual(post.houses[0].notes(), [(1, 0)])

    def test_who_has_no_unit_itself_cannot_watch(self):
        post = self.lent()
        thing = post.make(0)
        post.link(0, thing[1], (1, 0))
        post.refused(NoHold, post.houses[0].watch, (1, 0))
        post.refused(NoHold, post.houses[1].watch, (2, 0))
        post.die(1)
        post.tell(0, 1)
        post.refused(NoHold, post.houses[0].watch, (1, 1))

    def test_an_own_thing_may_be_watched(self):
        post = self.lent()
        post.watch(1, (1, 0))
        post.die(2)
        post.tell(1, 2)
        self.assertEqual(post.houses[1].notes(), [])


class Deaths(unittest.TestCase):
    def test_the_house_itself_and_what_is_no_house_are_refused(self):
        for many in (2, 8):
            post = Post(self, many)
            for house in (0, many - 1):
                for other in (house, -1, many, 99):
                    post.refused(BadHouse, post.houses[house].died, other)

    def test_no_unit_of_the_deads_things_is_left(self):
        post = Post(self, 3)
        handle, other, mine = post.make(1), post.make(2), post.make(0)
        for _ in range(3):
            post.give(1, handle, 0)
            post.give(2, other, 0)
        post.calm()
        post.link(0, 0, handle)
        post.link(0, 0, handle)
        post.link(0, 0, other)
        post.die(1)
        self.assertEqual(post.houses[0].count(handle), 1)
        post.tell(0, 1)
        self.assertEqual(post.houses[0].count(handle), 0)
        self.assertEqual(post.houses[0].table(), (((mine, 1), (other, 2)), ((0, ((other, 1),)),)))
        for deed, handed in [("drop", ()), ("give", (2,)), ("call", (1,))]:
            post.refused(NoHold, getattr(post.houses[0], deed), handle, *handed)
        post.calm()

    def test_the_units_that_the_dead_had_are_given_up(self):
        post = Post(self, 3)
        handle, other = post.make(0), post.make(0)
        for _ in range(3):
            post.give(0, handle, 1)
        post.give(0, other, 1)
        post.give(0, other, 2)
        post.make(1)
        post.calm()
        post.link(1, 0, handle)
        post.drop(0, handle)
        post.drop(0, other)
        post.calm()
        post.die(1)
        post.tell(0, 1)
        self.assertEqual(post.houses[0].things(), [(1, 0)])
        post.tell(0, 1)
        post.calm()
        self.assertEqual(post.houses[0].things(), [(1, 0)])

    def test_what_goes_by_a_death_gives_up_its_units_elsewhere(self):
        post = Post(self, 3)
        handle, far = post.make(0), post.make(2)
        post.give(0, handle, 1)
        post.give(2, far, 0)
        post.calm()
        post.link(0, 0, far)
        post.drop(0, handle)
        post.drop(2, far)
        post.calm()
        self.assertEqual(len(post.houses[2].things()), 1)
        post.die(1)
        post.tell(0, 1)
        post.lose()
        post.calm()
        self.assertEqual(post.houses[2].things(), [])

    def test_open_calls_are_answered_dead_and_the_others_stay(self):
        post = Post(self, 3)
        handle, other = post.make(1), post.make(2)
        for owned in (handle, other):
            post.give(owned[0], owned, 0)
        post.calm()
        post.call(0, handle, 1)
        post.calm()
        post.call(0, handle, 2)
        post.call(0, other, 3)
        post.lose()
        post.call(0, handle, 4)
        post.die(1)
        post.tell(0, 1)
        self.assertEqual(post.houses[0].answers(), [(0, 1), (1, "dead"), (3, "dead")])
        post.calm()
        self.assertEqual(post.houses[0].answers(), [(0, 1), (1, "dead"), (2, 3), (3, "dead")])

    def test_an_answer_that_comes_behind_the_death_is_nothing(self):
        post = Post(self, 2)
        handle = post.make(1)
        post.give(1, handle, 0)
        post.calm()
        post.call(0, handle, 2)
        while post.way and post.way[0][1][0] == 1:
            post.bring()
        post.turn(1)
        post.die(1)
        post.tell(0, 1)
        post.bring_all()
        self.assertEqual(post.houses[0].answers(), [(0, "dead")])

    def test_a_unit_that_comes_behind_its_owners_death_is_nothing(self):
        post = Post(self, 2)
        handle = post.make(1)
        post.give(1, handle, 0)
        post.die(1)
        post.tell(0, 1)
        post.bring_all()
        self.assertEqual(post.houses[0].count(handle), 0)
        post.calm()

    def test_a_unit_that_comes_ahead_of_the_word_is_had_until_then(self):
        post = Post(self, 2)
        handle = post.make(1)
        post.give(1, handle, 0)
        post.die(1)
        while post.way:
            post.bring()
        self.assertEqual(post.houses[0].count(handle), 1)
        post.tell(0, 1)
        self.assertEqual(post.houses[0].count(handle), 0)

    def test_letters_of_the_dead_ask_nothing(self):
        post = Post(self, 3)
        handle = post.make(0)
        post.give(0, handle, 1)
        post.give(0, handle, 1)
        post.calm()
        post.call(1, handle, 5)
        post.give(1, handle, 2)
        post.drop(1, handle)
        post.die(1)
        post.tell(0, 1)
        post.calm()
        self.assertEqual(post.houses[0].things(), [(0, 0)])
        self.assertEqual([post.houses[house].count(handle) for house in (0, 2)], [1, 0])

    def test_a_unit_under_way_to_the_dead_is_given_up(self):
        post = Post(self, 3)
        handle = post.make(0)
        post.give(0, handle, 1)
        post.die(1)
        post.drop(0, handle)
        self.assertEqual(len(post.houses[0].things()), 1)
        post.calm()
        self.assertEqual(post.houses[0].things(), [])

    def test_a_unit_that_is_given_to_the_dead_holds_nothing(self):
        post = Post(self, 3)
        handle = post.make(0)
        post.give(0, handle, 2)
        post.calm()
        post.die(1)
        post.tell(0, 1)
        post.give(0, handle, 1)
        post.give(2, handle, 1)
        post.calm()
        post.drop(0, handle)
        post.drop(2, handle)
        post.calm()
        self.assertEqual(post.houses[0].things(), [])

    def test_what_the_dead_gave_stays_with_its_getter(self):
        post = Post(self, 3)
        handle = post.make(0)
        post.give(0, handle, 1)
        post.calm()
        post.drop(0, handle)
        post.give(1, handle, 2)
        while post.way and post.way[0][1][0] == 0:
            post.bring()
        post.die(1)
        post.tell(2, 1)
        post.tell(0, 1)
        post.calm()
        count = post.houses[2].count(handle)
        self.assertEqual(len(post.houses[0].things()), count)

    def test_the_dead_are_told_of_by_and_by(self):
        post = Post(self, 4)
        handle = post.make(0)
        for to in (1, 2, 3):
            post.give(0, handle, to)
        post.calm()
        post.drop(0, handle)
        post.die(1)
        post.tell(3, 1)
        post.give(3, handle, 2)
        post.drop(3, handle)
        post.drop(2, handle)
        post.calm()
        self.assertEqual(post.houses[2].count(handle), 1)
        post.die(2)
        post.tell(0, 2)
        post.tell(3, 2)
        post.calm()
        self.assertEqual(post.houses[0].things(), [])

    def test_the_last_house_goes_on_alone(self):
        for many in (2, 8):
            post = Post(self, many)
            handle = post.make(0, 4)
            for to in range(1, many):
                post.give(0, handle, to)
                post.die(to)
            post.calm()
            post.call(0, handle, 5)
            post.calm()
            self.assertEqual(post.houses[0].answers(), [(0, 9)])
            post.drop(0, handle)
            post.calm()
            self.assertEqual(post.houses[0].things(), [])


if __name__ == "__main__":
    unittest.main()
