"""Points 1 and 8: letters, what is handed in, what is told, and what is refused."""

import copy
import unittest

from deathnotes.errors import BadHandle, BadHouse, BadLetter, BadWorth, NoHold, NoLink, NoThing
from post import Post


class Letters(unittest.TestCase):
    def test_a_letter_to_another_house_is_refused(self):
        post = Post(self, 3)
        handle = post.make(0)
        post.give(0, handle, 1)
        self.assertTrue(post.way)
        for _, letter in post.way:
            self.assertEqual(letter[0], 1)
            post.refused(BadLetter, post.houses[0].bring, letter)
            post.refused(BadLetter, post.houses[2].bring, letter)
        post.calm()
        self.assertEqual(post.houses[1].count(handle), 1)

    def test_a_letter_that_is_refused_for_another_house_comes_to_its_own(self):
        post = Post(self, 8)
        handle = post.make(7)
        post.give(7, handle, 0)
        for _, letter in post.way:
            for house in range(1, 8):
                self.assertRaises(BadLetter, post.houses[house].bring, letter)
        post.calm()
        self.assertEqual([house.count(handle) for house in post.houses], [1, 0, 0, 0, 0, 0, 0, 1])

    def test_all_deeds_of_the_interface_tell_lists_of_letters(self):
        post = Post(self, 2)
        house = post.houses[0]
        house.make(0)
        told = [house.give((0, 0), 1), house.call((0, 0), 1)[1], house.turn()]
        told.append(post.houses[1].bring(told[0][0]))
        told.extend([house.drop((0, 0)), house.sweep([0]), house.died(1)])
        for letters in told:
            self.assertIsInstance(letters, list)

    def test_a_call_tells_a_number_and_letters(self):
        post = Post(self, 2)
        post.make(0)
        told = post.houses[0].call((0, 0), 1)
        self.assertIsInstance(told, tuple)
        self.assertEqual(told[0], 0)
        self.assertIsInstance(told[1], list)

    def test_a_letter_that_comes_twice_gives_one_unit(self):
        post = Post(self, 2)
        handle = post.make(0)
        post.give(0, handle, 1)
        letters = list(post.way)
        for when, letter in letters * 3:
            post.hand(when, letter)
        post.calm()
        self.assertEqual(post.houses[1].count(handle), 1)
        post.drop(1, handle)
        post.calm()
        for when, letter in letters * 3:
            post.hand(when, letter)
        post.calm()
        self.assertEqual(post.houses[1].count(handle), 0)

    def test_a_drop_that_comes_twice_gives_up_one_unit(self):
        post = Post(self, 2)
        handle = post.make(0)
        post.give(0, handle, 1)
        post.give(0, handle, 1)
        post.calm()
        post.drop(0, handle)
        post.drop(1, handle)
        letters = list(post.way)
        for when, letter in letters * 3:
            post.hand(when, letter)
        post.calm()
        self.assertEqual(post.houses[0].things(), [(0, 0)])
        self.assertEqual(post.houses[1].count(handle), 1)

    def test_nothing_is_told_where_nothing_was_done(self):
        for many in (2, 8):
            post = Post(self, many)
            post.calm()
            self.assertEqual(post.ever, [])


class Kept(unittest.TestCase):
    def busy(self):
        """Make houses with something of each kind."""
        post = Post(self, 3)
        handle, other = post.make(0, 7), post.make(1, 8)
        post.give(0, handle, 1)
        post.give(1, other, 0)
        post.give(1, other, 0)
        post.calm()
        post.link(0, 0, other)
        post.watch(0, other)
        post.call(0, other, 1)
        post.call(0, handle, 1)
        post.calm()
        post.die(2)
        post.calm()
        return post

    def test_the_same_question_has_the_same_answer(self):
        post = self.busy()
        self.assertEqual(post.picture(), post.picture())
        self.assertEqual(post.houses[0].count((1, 0)), post.houses[0].count((1, 0)))

    def test_what_is_told_may_be_changed(self):
        post = self.busy()
        post.die(1)
        post.tell(0, 1)
        house = post.houses[0]
        before = copy.deepcopy(post.picture())
        for told in [house.answers(), house.notes(), house.things()]:
            self.assertIsInstance(told, list)
            self.assertTrue(told)
            told.append("more")
            told[0] = "other"
        self.assertEqual(post.picture(), before)

    def test_what_was_told_stays_as_it_was(self):
        post = self.busy()
        house = post.houses[0]
        told = [house.answers(), house.notes(), house.things(), house.table()]
        before = copy.deepcopy(told)
        post.make(0, 3)
        post.call(0, (1, 0), 1)
        post.die(1)
        post.tell(0, 1)
        self.assertEqual(told, before)
        for now, then in zip([house.answers(), house.notes(), house.things(), house.table()], before):
            self.assertNotEqual(now, then)

    def test_letters_that_are_told_may_be_changed(self):
        post = Post(self, 2)
        handle = post.make(0)
        for letters in [post.houses[0].give(handle, 1), post.houses[0].turn(), post.houses[0].turn()]:
            letters.clear()
        post.given.append((0, handle, 1))
        post.calm()
        self.assertEqual(post.houses[1].count(handle), 1)

    def test_tables_are_tuples_throughout(self):
        post = self.busy()

        def check(part):
            self.assertIn(type(part), (tuple, int))
            if isinstance(part, tuple):
                for inner in part:
                    check(inner)

        for house in post.houses:
            self.assertEqual(len(house.table()), 2)
            check(house.table())

    def test_a_list_that_is_handed_in_is_neither_changed_nor_kept(self):
        post = Post(self, 2)
        for _ in range(3):
            post.link(0, post.make(0)[1], (0, len(post.units[0]) - 1))
        things = [2, 0]
        post.houses[0].sweep(things)
        self.assertEqual(things, [2, 0])
        things.append(1)
        self.assertEqual(post.houses[0].things(), [(1, 0)])

    def test_houses_share_nothing_but_letters(self):
        one, two = Post(self, 2), Post(self, 2)
        one.make(0)
        self.assertEqual(two.houses[0].things(), [])
        self.assertEqual(two.houses[1].count((0, 0)), 0)


class Order(unittest.TestCase):
    """Of several refusals, what is handed in first; whether it can be ahead of whether it is had."""

    def setUp(self):
        self.post = Post(self, 3)
        self.post.make(0)
        self.house = self.post.houses[0]

    def test_the_first_that_is_handed_in_comes_first(self):
        self.post.refused(BadHandle, self.house.give, (3, 0), 0)
        self.post.refused(BadHandle, self.house.give, 5, 3)
        self.post.refused(BadHandle, self.house.call, (0, 100), 1000)
        self.post.refused(NoThing, self.house.link, 7, (1, 0))
        self.post.refused(NoThing, self.house.unlink, 7, (1, 0))
        self.post.refused(NoThing, self.house.link, 7, ())
        self.post.refused(NoThing, self.house.unlink, 7, ())

    def test_whether_it_can_be_is_ahead_of_whether_it_is_had(self):
        self.post.refused(BadHouse, self.house.give, (1, 0), 0)
        self.post.refused(BadHouse, self.house.give, (1, 0), 3)
        self.post.refused(BadWorth, self.house.call, (1, 0), 1000)
        self.post.refused(BadHandle, self.house.link, 0, (0, 0, 0))
        self.post.refused(BadHandle, self.house.unlink, 0, (0, 0, 0))

    def test_what_can_be_is_refused_where_it_is_not_had(self):
        self.post.refused(NoHold, self.house.give, (1, 0), 1)
        self.post.refused(NoHold, self.house.call, (1, 0), 999)
        self.post.refused(NoHold, self.house.link, 0, (1, 0))
        self.post.refused(NoLink, self.house.unlink, 0, (1, 0))


if __name__ == "__main__":
    unittest.main()
