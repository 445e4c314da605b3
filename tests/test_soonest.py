"""Promise 19: the soonest pourings that tip a vessel, or states that show that none do."""

import functools
import random
import unittest

from kinds import KindCase
from plain_run import plain_first
from plain_search import first_row_that_tips, plain_come_up, plain_tips_along, plain_watch, shortest_end
from samples import chance_net, clocks, hand_counter, net, small_net, spout, vessel, with_idle, with_start
from tipwell.errors import NoVessel, TooMany
from tipwell.layouts import counter
from tipwell.soonest import soonest

FAR = 10 ** 60 - 1
# More rows than these are not tried one by one.
MOST_ROWS = 3000


@functools.cache
def state_step(given, number):
    return functools.cache(lambda state, amount: plain_watch(given, state, number, amount))


class SoonestCase(KindCase):
    def assert_tips(self, given, number, most, row):
        self.assertIs(type(row), list)
        for amount in row:
            self.assertIs(type(amount), int)
            self.assertTrue(0 <= amount <= most)
        self.assertEqual(plain_tips_along(given, number, row), [False] * (len(row) - 1) + [True])
        if (most + 1) ** len(row) <= MOST_ROWS:
            self.assertEqual(row, first_row_that_tips(given, number, most, len(row)))
            return True
        length = shortest_end(plain_first(given), state_step(given, number), most, len(row))
        self.assertEqual(length, len(row))
        return False

    def assert_never(self, given, number, most, states):
        self.assertIs(type(states), list)
        self.assertIn(plain_first(given), states)
        there = set(states)
        for state in states:
            self.assert_state(given, state)
            for amount in range(most + 1):
                behind, tips = plain_watch(given, state, number, amount)
                self.assertFalse(tips)
                self.assertIn(behind, there)

    def check(self, given, number, most):
        """Hold what is told against all that comes up by the plain ticks: tell which of the three it was."""
        due, what = plain_come_up(plain_first(given), state_step(given, number), most, 300)
        if due == "too many":
            self.assert_refused(TooMany, soonest, given, number, most)
            return "too many"
        told = soonest(given, number, most)
        self.assertIs(type(told), tuple)
        word, found = told
        if due == "end":
            self.assertEqual((word, found), ("tips", what))
            self.assert_tips(given, number, most, found)
        else:
            self.assertEqual(word, "never")
            self.assert_never(given, number, most, found)
        return word


class Soonest(SoonestCase):
    def test_by_hand(self):
        self.assertEqual(soonest(net(vessel(1, 1)), 0, 5), ("tips", [1]))
        self.assertEqual(soonest(net(vessel(5, 5)), 0, 5), ("tips", [5]))
        self.assertEqual(soonest(net(vessel(6, 6)), 0, 5), ("tips", [1, 5]))
        self.assertEqual(soonest(clocks(1), 0, 5), ("tips", [0]))
        self.assertEqual(soonest(clocks(7), 0, 3), ("tips", [2, 3]))
        self.assertEqual(soonest(net(vessel(), vessel(3, 3), spouts=(spout(1, 1),)), 1, 5), ("tips", [0, 0, 0]))
        self.assertEqual(soonest(hand_counter(2, 2), 1, 3), ("tips", [2, 2, 0]))

    def test_never_by_hand(self):
        given = net(vessel(2, 2))
        self.assertEqual(soonest(given, 0, 0), ("never", [plain_first(given)]))
        given = with_idle(given)
        self.assertEqual(soonest(given, 1, 5)[0], "never")
        self.assertEqual(self.check(given, 1, 5), "never")

    def test_it_tips_ahead_of_the_row_by_no_shorter_one(self):
        # Vessel 0 shuts the spout as it tips, so vessel 1 is tipped by pouring nothing alone.
        given = net(vessel(1, 1, acts=(("shut", 0),)), vessel(3, 3), spouts=(spout(1, 1),))
        self.assertEqual(self.check(given, 1, 5), "tips")
        self.assertEqual(soonest(given, 1, 5), ("tips", [0, 0, 0]))
        given = net(vessel(1, 1, acts=(("open", 0),)), vessel(3, 3), spouts=(spout(1, 1, False),))
        self.assertEqual(soonest(given, 1, 2), ("tips", [1, 0, 0, 0]))

    def test_small_nets_by_chance(self):
        seen = {"tips": 0, "never": 0, "too many": 0}
        for seed in range(150):
            chance = random.Random(seed)
            given = small_net(chance, chance.randint(1, 4), chance.randint(0, 2))
            for number in range(len(given[0])):
                with self.subTest(seed=seed, number=number):
                    seen[self.check(given, number, seed % 6)] += 1
        self.assertGreater(seen["tips"], 150)
        self.assertGreater(seen["never"], 30)

    def test_rows_tried_one_by_one(self):
        tried = 0
        for seed in range(150, 250):
            chance = random.Random(seed)
            given = small_net(chance, chance.randint(2, 4), chance.randint(0, 2))
            most = chance.randint(1, 5)
            for number in range(1, len(given[0])):
                word, row = soonest(given, number, most) if self.check(given, number, most) == "tips" else ("", [])
                if word == "tips" and len(row) > 1:
                    tried += self.assert_tips(given, number, most, row)
        self.assertGreater(tried, 40)

    def test_greater_nets(self):
        for seed in range(250, 300):
            chance = random.Random(seed)
            given = chance_net(chance, chance.randint(1, 12), chance.randint(0, 12))
            with self.subTest(seed=seed):
                self.check(given, chance.randrange(len(given[0])), seed % 6)


class Edges(SoonestCase):
    def test_just_three_hundred_states(self):
        for given, most in ((with_idle(clocks(12, 25)), 0), (with_idle(hand_counter(9, 30)), 1),
                            (with_idle(hand_counter(59, 5)), 5)):
            word, states = soonest(given, 2, most)
            self.assertEqual((word, len(states)), ("never", 300))
            self.check(given, 2, most)

    def test_one_state_more(self):
        for given, most in ((with_idle(clocks(7, 43)), 0), (with_idle(hand_counter(6, 43)), 1),
                            (with_start(with_idle(hand_counter(9, 30))), 5), (with_start(with_idle(clocks(12, 25))), 0)):
            self.assertEqual(self.check(given, 2, most), "too many")

    def test_tipped_with_the_last_state_that_may_come_up(self):
        self.assertEqual(soonest(counter([13, 23]), 1, 0), ("tips", [0] * 300))
        self.assertEqual(self.check(counter([20, 15]), 1, 0), "too many")

    def test_tipped_ahead_of_the_state_that_is_one_too_many(self):
        given = with_idle(hand_counter(42, 7))
        self.assertEqual(self.check(given, 2, 5), "too many")
        self.assertEqual(self.check(given, 0, 5), "tips")

    def test_around_the_edge(self):
        seen = set()
        for size in range(5, 20, 2):
            for more in (-1, 0, 1, 2):
                for most in (1, 3):
                    seen.add(self.check(hand_counter(size, 300 // (size + 1) + more), 1, most))
        self.assertEqual(seen, {"tips", "too many"})


class Refusals(SoonestCase):
    def test_no_vessel_goes_first(self):
        for given in (net(vessel(1, 1)), clocks(7, 43), hand_counter(6, 43)):
            many = len(given[0])
            for number in (-1, -many, many, many + 1, FAR, -FAR):
                for most in (0, 1, 5):
                    self.assert_refused(NoVessel, soonest, given, number, most)

    def test_a_refusal_changes_nothing(self):
        given = hand_counter(2, 2)
        due = soonest(given, 1, 3)
        self.assert_refused(NoVessel, soonest, given, 2, 3)
        self.assert_refused(TooMany, soonest, with_idle(clocks(7, 43)), 2, 0)
        self.assertEqual(soonest(given, 1, 3), due)


class OwnLists(SoonestCase):
    def test_what_is_told_is_the_askers_own(self):
        for given, number in ((hand_counter(2, 2), 1), (with_idle(hand_counter(2, 2)), 2)):
            due = soonest(given, number, 2)
            kept = (due[0], list(due[1]))
            soonest(given, number, 2)[1].append("more")
            soonest(given, number, 2)[1].clear()
            self.assertEqual(soonest(given, number, 2), kept)
            self.assertEqual(due, kept)


class SomewhatBeyond(SoonestCase):
    def test_no_error(self):
        self.assertEqual(soonest(net(vessel(9, 9)), 0, 9), ("tips", [9]))


if __name__ == "__main__":
    unittest.main()
