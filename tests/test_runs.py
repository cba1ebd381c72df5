"""Points 9 and 10: long runs by chance, looked at behind each step and at rest."""

import unittest

from post import Post, Run, one_order


class Counting(unittest.TestCase):
    """The test's own counting must see what is wrong."""

    def test_an_order_of_calls_is_found(self):
        self.assertTrue(one_order(5, [], [], 5))
        self.assertTrue(one_order(5, [(2, 8), (1, 6)], [], 8))
        self.assertTrue(one_order(999, [(1, 0), (0, 0)], [], 0))
        self.assertTrue(one_order(5, [(2, 17)], [10, 20], 17))
        self.assertTrue(one_order(5, [(2, 7)], [10, 20], 37))

    def test_what_no_order_tells_is_found(self):
        self.assertFalse(one_order(5, [], [], 6))
        self.assertFalse(one_order(5, [(2, 7), (1, 6)], [], 8))
        self.assertFalse(one_order(5, [(2, 7), (2, 7)], [], None))
        self.assertFalse(one_order(5, [(2, 7)], [10], 27))


class Runs(unittest.TestCase):
    def runs(self, seeds, deaths, wild, steps, most=6):
        for seed in seeds:
            with self.subTest(seed=seed):
                run = Run(self, seed, 2 + seed % 7, deaths, wild, most)
                for _ in range(3):
                    run.run(steps)
                    if not wild:
                        run.post.sweep_rings()

    def test_letters_are_lost_late_and_doubled(self):
        self.runs(range(0, 150), False, False, 80)

    def test_houses_die(self):
        self.runs(range(1000, 1200), True, False, 60)

    def test_things_are_swept_that_others_have(self):
        self.runs(range(2000, 2100), False, True, 60)

    def test_things_are_swept_and_houses_die(self):
        self.runs(range(3000, 3100), True, True, 60)

    def test_many_deeds_with_few_things(self):
        self.runs(range(4000, 4100), False, False, 100, 1)
        self.runs(range(5000, 5100), True, True, 100, 1)


class Calm(unittest.TestCase):
    def test_all_deeds_lost_are_told_again_until_it_is_at_rest(self):
        post = Post(self, 4)
        handles = [post.make(house, house) for house in range(4)]
        for handle in handles:
            for to in range(4):
                if to != handle[0]:
                    post.give(handle[0], handle, to)
                    post.lose()
        post.calm()
        for house in range(4):
            for handle in handles:
                post.call(house, handle, 100)
                post.give(house, handle, (house + 1) % 4)
                post.drop(house, handle)
                post.lose()
        post.calm()
        for house in range(4):
            self.assertEqual([post.houses[house].count(handle) for handle in handles], [1, 1, 1, 1])
            self.assertEqual(post.houses[house].things(), [(0, house + 400)])

    def test_a_run_comes_to_rest_while_letters_of_the_dead_are_under_way(self):
        post = Post(self, 3)
        handle, other = post.make(0), post.make(2)
        post.give(0, handle, 1)
        post.give(2, other, 1)
        post.calm()
        post.call(1, handle, 1)
        post.give(1, handle, 2)
        post.give(1, other, 0)
        post.drop(1, other)
        post.die(1)
        post.calm()
        self.assertEqual(post.houses[0].answers(), [])

    def test_many_lost_deeds_with_one_thing_come_to_rest(self):
        post = Post(self, 2)
        handle = post.make(0)
        post.give(0, handle, 1)
        post.calm()
        for _ in range(150):
            post.call(1, handle, 1)
            post.give(1, handle, 0)
            post.give(0, handle, 1)
            post.lose()
        post.calm()
        self.assertEqual(post.houses[1].answers()[-1], (149, 150))
        self.assertEqual([house.count(handle) for house in post.houses], [151, 151])

    def test_a_full_house_is_emptied_by_another_ones_drop(self):
        post = Post(self, 2)
        first = post.make(0)
        post.give(0, first, 1)
        before = first
        for _ in range(99):
            handle = post.make(0)
            post.link(0, before[1], handle)
            before = handle
        post.drop(0, first)
        post.calm()
        self.assertEqual(len(post.houses[0].things()), 100)
        post.drop(1, first)
        post.lose()
        post.calm()
        self.assertEqual(post.houses[0].things(), [])


if __name__ == "__main__":
    unittest.main()
