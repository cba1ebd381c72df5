"""Points 2, 3 and 4: things, units, tables, and when a thing is gone."""

import unittest

from deathnotes.errors import BadHandle, BadHouse, BadWorth, Full, NoHold, NoLink, NoThing
from deathnotes.houses import House
from post import Post

NO_HANDLES = [0, 7, -1, (), (0,), (0, 0, 0), ((0, 0), 0), (0, (0,)), ((0, 0), (0, 0)), ((),), (-1, 0), (0, -1),
              (3, 0), (0, 100), (8, 0), (1, 1000)]


class Making(unittest.TestCase):
    def test_there_are_two_to_eight_houses(self):
        for many in range(2, 9):
            for number in range(many):
                self.assertEqual(House(number, many).table(), ((), ()))

    def test_other_numbers_of_houses_are_refused(self):
        for number, many in [(0, 1), (0, 9), (0, 0), (0, -2), (8, 9), (0, 100)]:
            self.assertRaises(BadHouse, House, number, many)

    def test_a_house_that_there_is_not_is_refused(self):
        for number, many in [(2, 2), (8, 8), (-1, 2), (-1, 8), (99, 8)]:
            self.assertRaises(BadHouse, House, number, many)

    def test_things_are_numbered_from_0_with_their_worths(self):
        house = House(1, 2)
        self.assertEqual([house.make(0), house.make(999), house.make(5)], [0, 1, 2])
        self.assertEqual(house.things(), [(0, 0), (1, 999), (2, 5)])

    def test_worths_beyond_are_refused(self):
        post = Post(self, 2)
        for worth in (-1, 1000, 12345):
            post.refused(BadWorth, post.houses[0].make, worth)
        self.assertEqual(post.make(0, 999), (0, 0))

    def test_a_hundred_things_at_the_most(self):
        post = Post(self, 2)
        for number in range(100):
            self.assertEqual(post.make(0, number), (0, number))
        post.refused(Full, post.houses[0].make, 0)
        self.assertEqual(post.make(1), (1, 0))

    def test_things_that_are_gone_were_made_too(self):
        house = House(0, 2)
        for number in range(100):
            self.assertEqual(house.make(1), number)
            house.drop((0, number))
        self.assertEqual(house.things(), [])
        self.assertRaises(Full, house.make, 1)

    def test_what_is_handed_in_is_looked_at_ahead_of_whether_it_is_full(self):
        house = House(0, 2)
        for _ in range(100):
            house.make(0)
        self.assertRaises(BadWorth, house.make, 1000)

    def test_the_maker_has_one_unit(self):
        post = Post(self, 2)
        handle = post.make(1)
        self.assertEqual(handle, (1, 0))
        self.assertEqual([house.count(handle) for house in post.houses], [0, 1])


class Handles(unittest.TestCase):
    def test_what_is_no_handle_is_refused(self):
        post = Post(self, 3)
        post.make(0)
        house = post.houses[0]
        for handle in NO_HANDLES:
            post.refused(BadHandle, house.count, handle)
            post.refused(BadHandle, house.give, handle, 1)
            post.refused(BadHandle, house.drop, handle)
            post.refused(BadHandle, house.link, 0, handle)
            post.refused(BadHandle, house.unlink, 0, handle)
            post.refused(BadHandle, house.call, handle, 0)
            post.refused(BadHandle, house.watch, handle)

    def test_a_handle_of_a_thing_that_was_never_made_is_one(self):
        post = Post(self, 8)
        post.make(0)
        house = post.houses[0]
        for handle in [(0, 1), (0, 99), (1, 0), (7, 99)]:
            self.assertEqual(house.count(handle), 0)
            post.refused(NoHold, house.give, handle, 1)
            post.refused(NoHold, house.drop, handle)
            post.refused(NoHold, house.link, 0, handle)
            post.refused(NoLink, house.unlink, 0, handle)
            post.refused(NoHold, house.call, handle, 0)
            post.refused(NoHold, house.watch, handle)


class Giving(unittest.TestCase):
    def test_the_owner_gives(self):
        post = Post(self, 2)
        handle = post.make(0)
        post.give(0, handle, 1)
        self.assertEqual(post.houses[1].count(handle), 0)
        post.calm()
        self.assertEqual([house.count(handle) for house in post.houses], [1, 1])

    def test_a_unit_comes_with_the_owners_letter(self):
        post = Post(self, 2)
        handle = post.make(0)
        post.give(0, handle, 1)
        post.lose()
        self.assertEqual(post.houses[1].count(handle), 0)
        post.calm()
        self.assertEqual(post.houses[1].count(handle), 1)

    def test_each_give_is_a_unit(self):
        post = Post(self, 3)
        handle = post.make(0)
        for _ in range(5):
            post.give(0, handle, 1)
        post.calm()
        post.give(1, handle, 2)
        post.give(1, handle, 2)
        post.calm()
        self.assertEqual([house.count(handle) for house in post.houses], [1, 5, 2])

    def test_a_borrower_gives_to_a_third_and_to_the_owner(self):
        post = Post(self, 3)
        handle = post.make(2)
        post.give(2, handle, 0)
        post.calm()
        post.give(0, handle, 1)
        post.give(0, handle, 2)
        post.calm()
        self.assertEqual([house.count(handle) for house in post.houses], [1, 1, 2])

    def test_a_house_that_there_is_not_and_the_house_itself_are_refused(self):
        for many in (2, 8):
            post = Post(self, many)
            handle = post.make(0)
            post.give(0, handle, 1)
            post.calm()
            for to in (-1, many, 0, 99):
                post.refused(BadHouse, post.houses[0].give, handle, to)
            post.refused(BadHouse, post.houses[1].give, handle, 1)

    def test_who_has_no_unit_cannot_give(self):
        post = Post(self, 2)
        handle = post.make(0)
        post.refused(NoHold, post.houses[1].give, handle, 0)
        other = post.make(0)
        post.link(0, 0, other)
        post.refused(NoHold, post.houses[0].give, other, 1)

    def test_all_of_eight_houses_have_a_unit(self):
        post = Post(self, 8)
        handle = post.make(7, 3)
        for to in range(7):
            post.give(7, handle, to)
        post.calm()
        for house in (7, 0, 3, 6, 1, 5, 2):
            post.drop(house, handle)
            post.calm()
            self.assertEqual(post.houses[7].things(), [(0, 3)])
        post.drop(4, handle)
        post.calm()
        self.assertEqual(post.houses[7].things(), [])


class Dropping(unittest.TestCase):
    def test_a_thing_without_a_unit_is_gone(self):
        post = Post(self, 2)
        handle = post.make(0)
        post.drop(0, handle)
        self.assertEqual(post.houses[0].things(), [])
        self.assertEqual(post.houses[0].table(), ((), ()))
        post.refused(NoHold, post.houses[0].drop, handle)
        self.assertEqual(post.make(0), (0, 1))

    def test_no_more_than_is_had_can_be_dropped(self):
        post = Post(self, 2)
        handle = post.make(0)
        post.give(0, handle, 1)
        post.give(0, handle, 1)
        post.calm()
        post.drop(1, handle)
        post.drop(1, handle)
        post.refused(NoHold, post.houses[1].drop, handle)
        post.calm()
        self.assertEqual(post.houses[0].count(handle), 1)

    def test_a_thing_stands_while_a_unit_is_under_way(self):
        post = Post(self, 3)
        handle = post.make(0)
        post.give(0, handle, 1)
        post.drop(0, handle)
        post.lose()
        post.calm()
        self.assertEqual(post.houses[1].count(handle), 1)
        post.give(1, handle, 2)
        post.drop(1, handle)
        post.lose()
        post.calm()
        self.assertEqual([house.count(handle) for house in post.houses], [0, 0, 1])
        self.assertEqual(len(post.houses[0].things()), 1)

    def test_a_drop_overtakes_no_give_in_whatever_order_letters_come(self):
        for order in ([0, 1], [1, 0], [1], [0], [1, 1, 0, 0], [0, 1, 0, 1]):
            post = Post(self, 3)
            handle = post.make(0)
            post.give(0, handle, 1)
            post.calm()
            post.drop(0, handle)
            post.calm()
            post.give(1, handle, 2)
            post.drop(1, handle)
            letters, post.way = post.way, []
            for at in order:
                if at < len(letters):
                    post.hand(*letters[at])
            post.calm()
            self.assertEqual(post.houses[2].count(handle), 1)


class Linking(unittest.TestCase):
    def test_a_unit_goes_to_a_thing_and_back(self):
        post = Post(self, 2)
        thing, other = post.make(0), post.make(0)
        post.link(0, 0, other)
        self.assertEqual(post.houses[0].table(), (((thing, 1),), ((0, ((other, 1),)), (1, ()))))
        self.assertEqual(post.houses[0].count(other), 0)
        post.unlink(0, 0, other)
        self.assertEqual(post.houses[0].table(), (((thing, 1), (other, 1)), ((0, ()), (1, ()))))

    def test_units_of_other_houses_things_are_linked(self):
        post = Post(self, 3)
        mine, yours = post.make(1), post.make(0)
        for _ in range(3):
            post.give(0, yours, 1)
        post.calm()
        post.link(1, 0, yours)
        post.link(1, 0, yours)
        self.assertEqual(post.houses[1].table(), (((yours, 1), (mine, 1)), ((0, ((yours, 2),)),)))
        post.drop(1, yours)
        post.drop(0, yours)
        post.calm()
        self.assertEqual(len(post.houses[0].things()), 1)
        post.drop(1, mine)
        post.calm()
        self.assertEqual(post.houses[0].things(), [])

    def test_a_thing_may_have_units_of_itself(self):
        post = Post(self, 2)
        thing = post.make(0)
        post.link(0, 0, thing)
        self.assertEqual(post.houses[0].table(), ((), ((0, ((thing, 1),)),)))
        post.calm()
        self.assertEqual(len(post.houses[0].things()), 1)
        post.unlink(0, 0, thing)
        post.drop(0, thing)
        self.assertEqual(post.houses[0].things(), [])

    def test_a_ring_over_two_houses_stands(self):
        post = Post(self, 2)
        one, two = post.make(0), post.make(1)
        post.give(0, one, 1)
        post.give(1, two, 0)
        post.calm()
        post.link(0, 0, two)
        post.link(1, 0, one)
        post.drop(0, one)
        post.drop(1, two)
        post.calm()
        self.assertEqual([len(house.things()) for house in post.houses], [1, 1])

    def test_what_a_thing_had_goes_with_it(self):
        post = Post(self, 2)
        first, second, third = post.make(0), post.make(0), post.make(0)
        post.link(0, 1, third)
        post.link(0, 0, second)
        post.drop(0, first)
        self.assertEqual(post.houses[0].things(), [])

    def test_a_long_row_over_two_houses_goes(self):
        post = Post(self, 2)
        row = [post.make(at % 2) for at in range(60)]
        for at, handle in enumerate(row[1:], 1):
            owner = handle[0]
            post.give(owner, handle, 1 - owner)
            post.bring_all()
            post.link(1 - owner, row[at - 1][1], handle)
        for at in range(1, 60):
            post.drop(row[at][0], row[at])
        post.calm()
        self.assertEqual([len(house.things()) for house in post.houses], [30, 30])
        post.drop(0, row[0])
        post.lose()
        post.calm()
        self.assertEqual([len(house.things()) for house in post.houses], [0, 0])

    def test_tables_rise(self):
        post = Post(self, 3)
        for house in (2, 1, 0):
            for _ in range(12):
                post.make(house)
        for house in (2, 0):
            for thing in (10, 2, 0):
                post.give(house, (house, thing), 1)
        post.calm()
        for handle in [(2, 2), (1, 9), (0, 10), (1, 11), (0, 2)]:
            post.link(1, 3, handle)
        links = dict(post.houses[1].table()[1])[3]
        self.assertEqual(links, (((0, 2), 1), ((0, 10), 1), ((1, 9), 1), ((1, 11), 1), ((2, 2), 1)))
        self.assertEqual([thing for thing, _ in post.houses[1].table()[1]], list(range(12)))

    def test_what_is_no_own_thing_is_refused(self):
        post = Post(self, 2)
        thing, gone, handle = post.make(0), post.make(0), post.make(1)
        post.make(1)
        post.make(1)
        post.drop(0, gone)
        post.give(1, handle, 0)
        post.calm()
        for number in (gone[1], 2, -1, 99, 100):
            post.refused(NoThing, post.houses[0].link, number, handle)
            post.refused(NoThing, post.houses[0].unlink, number, handle)
        self.assertEqual(post.houses[0].count(thing), 1)

    def test_a_unit_that_is_not_had_is_refused(self):
        post = Post(self, 2)
        thing, other = post.make(0), post.make(0)
        post.refused(NoLink, post.houses[0].unlink, 0, other)
        post.link(0, 0, other)
        post.refused(NoHold, post.houses[0].link, 0, other)
        post.refused(NoLink, post.houses[0].unlink, 1, other)
        post.refused(NoLink, post.houses[0].unlink, 0, thing)
        post.refused(NoHold, post.houses[0].drop, other)
        post.unlink(0, 0, other)
        post.refused(NoLink, post.houses[0].unlink, 0, other)


if __name__ == "__main__":
    unittest.main()
