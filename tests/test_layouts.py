"""Promise 12: counters and bells, by the plain ticks."""

import random
import unittest

from plain_round import plain_round, plain_tips, plain_walk
from tipwell.layouts import bell_for, counter
from tipwell.nets import is_net

TICKS = 3000


class Counters(unittest.TestCase):
    def assert_counts(self, sizes, many=TICKS):
        kept = list(sizes)
        given = counter(sizes)
        self.assertEqual(sizes, kept)
        self.assertIs(is_net(given), True)
        self.assertEqual(len(given[0]), len(sizes))
        tipped = plain_walk(given, many)[1]
        product = 1
        for number, size in enumerate(sizes):
            product *= size
            due = list(range(product - 1 + number, many, product))
            self.assertEqual(plain_tips(tipped, number), due)

    def test_one_size(self):
        for size in range(1, 61):
            self.assert_counts([size], 200)

    def test_eight_sizes(self):
        self.assert_counts([1] * 8)
        self.assert_counts([2] * 8)
        self.assert_counts([60] * 8)
        self.assert_counts([1, 1, 1, 1, 1, 1, 1, 60])
        self.assert_counts([60, 1, 1, 1, 1, 1, 1, 1])
        self.assert_counts([3, 1, 2, 1, 5, 1, 1, 4])

    def test_two_sizes_at_the_edges(self):
        for sizes in ([1, 1], [1, 60], [60, 1], [60, 60], [2, 1], [1, 2], [59, 50]):
            self.assert_counts(sizes, 8000)

    def test_by_chance(self):
        chance = random.Random(12)
        for _ in range(30):
            most = chance.choice((2, 3, 5, 60))
            self.assert_counts([chance.randint(1, most) for _ in range(chance.randint(1, 8))], 1500)

    def test_told_anew(self):
        sizes = [3, 4]
        given = counter(sizes)
        sizes.clear()
        self.assertEqual(given, counter([3, 4]))

    def test_somewhat_beyond(self):
        for sizes in ([], [61], [2] * 12, [0]):
            counter(sizes)


class Bells(unittest.TestCase):
    def assert_rings(self, ticks):
        kept = list(ticks)
        given = bell_for(ticks)
        self.assertEqual(ticks, kept)
        self.assertIs(is_net(given), True)
        states, tipped = plain_walk(given, 1000)
        ahead, length = plain_round(states)
        # Behind the tick ahead the ticks come again, so none of these tips is told for ever.
        self.assertEqual([tick for tick in plain_tips(tipped, 0) if tick >= ahead], [])
        self.assertLess(ahead + length, 1000)
        self.assertEqual(plain_tips(tipped, 0), ticks)

    def test_one_tick(self):
        for tick in range(1, 61):
            self.assert_rings([tick])

    def test_eleven_ticks(self):
        self.assert_rings(list(range(1, 12)))
        self.assert_rings(list(range(50, 61)))
        self.assert_rings(list(range(20, 31)))
        self.assert_rings([1, 7, 13, 19, 25, 31, 37, 43, 49, 55, 60])
        self.assert_rings([1, 2, 3, 4, 5, 30, 56, 57, 58, 59, 60])

    def test_two_ticks(self):
        for ticks in ([1, 2], [1, 60], [59, 60], [30, 31], [29, 58]):
            self.assert_rings(ticks)

    def test_by_chance(self):
        chance = random.Random(13)
        for _ in range(100):
            self.assert_rings(sorted(chance.sample(range(1, 61), chance.randint(1, 11))))

    def test_told_anew(self):
        ticks = [3, 4]
        given = bell_for(ticks)
        ticks.clear()
        self.assertEqual(given, bell_for([3, 4]))

    def test_somewhat_beyond(self):
        for ticks in ([], [61], list(range(1, 20)), [0]):
            bell_for(ticks)


if __name__ == "__main__":
    unittest.main()
