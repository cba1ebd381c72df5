"""Point 5: calls are done once and answered, and stand behind no drop."""

import itertools
import unittest

from deathnotes.errors import BadWorth, NoHold
from post import Post


def lent(test, many, worth=0):
    """Make a post and a thing of house 0 of which each house has a unit."""
    post = Post(test, many)
    handle = post.make(0, worth)
    for to in range(1, many):
        post.give(0, handle, to)
    post.calm()
    return post, handle


class Calls(unittest.TestCase):
    def test_a_number_is_added_and_the_worth_then_is_the_answer(self):
        post, handle = lent(self, 2, 5)
        self.assertEqual(post.call(1, handle, 7), 0)
        self.assertEqual(post.houses[1].answers(), [])
        post.calm()
        self.assertEqual(post.houses[1].answers(), [(0, 12)])
        self.assertEqual(post.houses[0].things(), [(0, 12)])

    def test_the_rest_by_1000_is_taken(self):
        for worth, number, answer in [(999, 1, 0), (999, 999, 998), (0, 0, 0), (0, 999, 999), (500, 500, 0),
                                      (1, 998, 999)]:
            post, handle = lent(self, 2, worth)
            post.call(1, handle, number)
            post.calm()
            self.assertEqual(post.houses[1].answers(), [(0, answer)])
            self.assertEqual(post.houses[0].things(), [(0, answer)])

    def test_the_owner_calls_its_own_thing(self):
        post, handle = lent(self, 2, 5)
        self.assertEqual(post.call(0, handle, 6), 0)
        post.calm()
        self.assertEqual(post.houses[0].answers(), [(0, 11)])
        self.assertEqual(post.houses[0].things(), [(0, 11)])

    def test_each_house_numbers_its_calls_from_0(self):
        post, handle = lent(self, 3)
        other = post.make(1)
        self.assertEqual([post.call(1, handle, 1), post.call(1, other, 1), post.call(1, handle, 1)], [0, 1, 2])
        self.assertEqual([post.call(2, handle, 1), post.call(2, handle, 1)], [0, 1])
        self.assertEqual(post.call(0, handle, 1), 0)
        post.calm()
        self.assertEqual([call for call, _ in post.houses[1].answers()], [0, 1, 2])

    def test_answers_rise_where_a_later_call_is_answered_first(self):
        post, handle = lent(self, 3)
        other = post.make(2, 50)
        post.give(2, other, 1)
        post.calm()
        post.call(1, handle, 1)
        post.lose()
        post.call(1, other, 1)
        # All letters to the first thing's house are lost for a while.
        for _ in range(12):
            while post.way:
                when, letter = post.way.pop(0)
                if letter[0] != 0:
                    post.hand(when, letter)
            post.turn(1)
            post.turn(2)
        self.assertEqual(post.houses[1].answers(), [(1, 51)])
        post.calm()
        self.assertEqual(post.houses[1].answers(), [(0, 1), (1, 51)])

    def test_numbers_beyond_are_refused(self):
        post, handle = lent(self, 2)
        for house in post.houses:
            for number in (-1, 1000):
                post.refused(BadWorth, house.call, handle, number)
        self.assertEqual(post.call(1, handle, 999), 0)

    def test_who_has_no_unit_itself_cannot_call(self):
        post, handle = lent(self, 2)
        post.make(1)
        post.link(1, 0, handle)
        post.refused(NoHold, post.houses[1].call, handle, 1)
        self.assertRaises(NoHold, post.houses[0].call, (1, 0), 1)

    def test_a_call_that_is_brought_often_is_done_once(self):
        post, handle = lent(self, 2)
        post.call(1, handle, 1)
        letters = list(post.way)
        for _ in range(3):
            for when, letter in letters:
                post.hand(when, letter)
        post.calm()
        for when, letter in letters:
            post.hand(when, letter)
        post.calm()
        self.assertEqual(post.houses[1].answers(), [(0, 1)])
        self.assertEqual(post.houses[0].things(), [(0, 1)])

    def test_a_call_and_an_answer_that_are_lost_are_told_again(self):
        post, handle = lent(self, 2)
        post.call(1, handle, 1)
        post.lose()
        for _ in range(3):
            post.turn(1)
            while post.way:
                when, letter = post.way.pop(0)
                if letter[0] == 0:
                    post.hand(when, letter)
            post.turn(0)
            post.lose()
        self.assertEqual(post.houses[1].answers(), [])
        post.calm()
        self.assertEqual(post.houses[1].answers(), [(0, 1)])
        self.assertEqual(post.houses[0].things(), [(0, 1)])

    def test_old_letters_do_no_call_again(self):
        post, handle = lent(self, 2)
        for _ in range(30):
            post.call(1, handle, 1)
            post.turn(1)
            post.bring_all()
        for when, letter in list(enumerate(post.ever)):
            post.hand(when, letter)
        post.calm()
        self.assertEqual(post.houses[1].answers(), [(call, call + 1) for call in range(30)])

    def test_calls_of_many_houses_are_done_in_one_order(self):
        post, handle = lent(self, 8)
        for at in range(8):
            post.call(at, handle, 2 ** at)
        post.way.reverse()
        post.calm()
        answers = sorted(answer for house in post.houses for _, answer in house.answers())
        self.assertEqual(answers[-1], 255)
        # Each answer holds what was added ahead of it, and one number more.
        for before, after in itertools.pairwise([0] + answers):
            self.assertEqual(before & after, before)
            self.assertEqual((after - before).bit_count(), 1)


class Drops(unittest.TestCase):
    def check(self, deeds, orders):
        """Do deeds of house 1 with the only unit that is left; the letters come in each order."""
        for order in orders:
            post, handle = lent(self, 3)
            post.drop(0, handle)
            post.drop(2, handle)
            post.calm()
            deeds(post, handle)
            letters, post.way = post.way, []
            for at in order:
                if at < len(letters):
                    post.hand(*letters[at])
            post.calm()
            yield post, handle

    def orders(self):
        return [*itertools.permutations(range(3)), [0], [1], [2], [2, 2, 1, 1, 0, 0], []]

    def test_a_drop_goes_behind_a_call(self):
        def deeds(post, handle):
            post.call(1, handle, 5)
            post.drop(1, handle)
            self.assertEqual(post.houses[1].count(handle), 0)

        for post, _ in self.check(deeds, self.orders()):
            self.assertEqual(post.houses[1].answers(), [(0, 5)])
            self.assertEqual(post.houses[0].things(), [])

    def test_a_drop_goes_behind_several_calls_and_gives(self):
        def deeds(post, handle):
            post.call(1, handle, 5)
            post.give(1, handle, 2)
            post.call(1, handle, 6)
            post.drop(1, handle)

        for post, handle in self.check(deeds, self.orders()):
            self.assertEqual(sorted(answer for _, answer in post.houses[1].answers())[-1], 11)
            self.assertEqual(post.houses[2].count(handle), 1)

    def test_a_unit_that_goes_with_a_thing_goes_behind_a_call(self):
        def deeds(post, handle):
            thing = post.make(1)
            post.call(1, handle, 5)
            post.link(1, thing[1], handle)
            post.drop(1, thing)

        for post, _ in self.check(deeds, self.orders()):
            self.assertEqual(post.houses[1].answers(), [(0, 5)])
            self.assertEqual(post.houses[0].things(), [])


if __name__ == "__main__":
    unittest.main()
