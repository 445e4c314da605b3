"""Promises 13 and 14: two nets act alike, or are parted by a row of pourings than which none is shorter."""

import functools
import random
import unittest

from kinds import KindCase
from plain_run import plain_first
from plain_search import plain_come_up, plain_tips_along, plain_watch, shortest_end
from samples import chance_net, clocks, hand_counter, net, small_net, spout, vessel, with_idle, with_start
from tipwell.alike import alike
from tipwell.errors import TooMany
from tipwell.layouts import counter

# Its vessel 1 never tips, and it has one state, whatever is poured.
NEVER = net(vessel(1, 1), vessel())


@functools.cache
def pair_step(given, other, one, two):
    @functools.cache
    def step(pair, amount):
        state, tips = plain_watch(given, pair[0], one, amount)
        other_state, other_tips = plain_watch(other, pair[1], two, amount)
        return (state, other_state), tips is not other_tips
    return step


def first_pair(given, other):
    return plain_first(given), plain_first(other)


def shuffled(chance, given):
    """The net with its spouts in another order, and its acts numbered so."""
    vessels, spouts = given
    order = list(range(len(spouts)))
    chance.shuffle(order)
    vessels = tuple(
        part[:5] + (tuple((word, order.index(number)) for word, number in part[5]),) for part in vessels
    )
    return (vessels, tuple(spouts[number] for number in order))


class AlikeCase(KindCase):
    def assert_parted(self, given, other, one, two, most, row):
        self.assertIs(type(row), list)
        for amount in row:
            self.assertIs(type(amount), int)
            self.assertTrue(0 <= amount <= most)
        both = zip(plain_tips_along(given, one, row), plain_tips_along(other, two, row))
        self.assertEqual([tips != other_tips for tips, other_tips in both], [False] * (len(row) - 1) + [True])
        step = pair_step(given, other, one, two)
        self.assertEqual(shortest_end(first_pair(given, other), step, most, len(row)), len(row))

    def assert_alike(self, given, other, one, two, most, pairs):
        self.assertIs(type(pairs), list)
        self.assertIn(first_pair(given, other), pairs)
        step = pair_step(given, other, one, two)
        there = set(pairs)
        for pair in pairs:
            self.assertIs(type(pair), tuple)
            self.assertEqual(len(pair), 2)
            self.assert_state(given, pair[0])
            self.assert_state(other, pair[1])
            for amount in range(most + 1):
                behind, is_parted = step(pair, amount)
                self.assertFalse(is_parted)
                self.assertIn(behind, there)

    def check(self, given, other, one, two, most):
        """Hold what is told against all that comes up by the plain ticks: tell which of the three it was."""
        step = pair_step(given, other, one, two)
        due, what = plain_come_up(first_pair(given, other), step, most, 300)
        if due == "too many":
            self.assert_refused(TooMany, alike, given, other, one, two, most)
            return "too many"
        told = alike(given, other, one, two, most)
        self.assertIs(type(told), tuple)
        word, found = told
        if due == "end":
            self.assertEqual((word, len(found)), ("parted", len(what)))
            self.assert_parted(given, other, one, two, most, found)
        else:
            self.assertEqual(word, "alike")
            self.assert_alike(given, other, one, two, most, found)
        return word


class Alike(AlikeCase):
    def test_a_net_and_itself(self):
        for seed in range(60):
            chance = random.Random(seed)
            given = small_net(chance, chance.randint(1, 3), chance.randint(0, 2))
            watched, most = chance.randrange(len(given[0])), seed % 6
            with self.subTest(seed=seed):
                self.assertIn(self.check(given, given, watched, watched, most), ("alike", "too many"))

    def test_a_net_and_its_twins(self):
        seen = {"alike": 0, "too many": 0}
        for seed in range(60, 120):
            chance = random.Random(seed)
            given = small_net(chance, chance.randint(1, 3), chance.randint(0, 3))
            watched, most = chance.randrange(len(given[0])), seed % 6
            for twin in (with_idle(given), shuffled(chance, given)):
                with self.subTest(seed=seed):
                    seen[self.check(given, twin, watched, watched, most)] += 1
                    self.check(twin, given, watched, watched, most)
        self.assertGreater(seen["alike"], 80)

    def test_other_nets_that_act_alike(self):
        # A vessel of 2 that parts hand on to, and one of 4 that gets double.
        one = net(vessel(2, 2, ((1, 1), (None, 1))), vessel(3, 3))
        two = net(vessel(2, 2, ((1, 2),)), vessel(6, 6))
        for most in range(6):
            self.assertEqual(self.check(one, two, 1, 1, most), "alike")
            self.assertEqual(self.check(one, two, 0, 0, most), "alike")
            self.assertEqual(self.check(one, NEVER, 0, 1, most), "alike" if most == 0 else "parted")

    def test_alike_by_small_pourings_alone(self):
        one, two = net(vessel(3, 3)), net(vessel(3, 5, holds=True, outs=((None, 3),)))
        self.assertEqual([self.check(one, two, 0, 0, most) for most in range(4)],
                         ["alike", "alike", "parted", "parted"])

    def test_two_vessels_of_one_net(self):
        given = clocks(3, 3, 4)
        self.assertEqual(self.check(given, given, 0, 1, 0), "alike")
        self.assertEqual(self.check(given, given, 0, 2, 0), "parted")
        self.assertEqual(self.check(given, given, 0, 1, 1), "parted")

    def test_never_a_tip(self):
        self.assertEqual(alike(NEVER, NEVER, 1, 1, 0), ("alike", [first_pair(NEVER, NEVER)]))


class Parted(AlikeCase):
    def test_by_hand(self):
        self.assertEqual(alike(net(vessel(2, 2)), net(vessel(3, 3)), 0, 0, 1), ("parted", [1, 1]))
        self.assertEqual(alike(clocks(1), NEVER, 0, 1, 0), ("parted", [0]))
        self.assertEqual(alike(NEVER, clocks(4), 1, 0, 0), ("parted", [0, 0, 0, 0]))
        self.assertEqual(alike(net(vessel(5, 5)), net(vessel(6, 6)), 0, 0, 5), ("parted", [5]))

    def test_unlike_nets_by_chance(self):
        seen = {"parted": 0, "alike": 0, "too many": 0}
        for seed in range(200):
            chance = random.Random(seed)
            given = small_net(chance, chance.randint(1, 3), chance.randint(0, 2))
            other = small_net(chance, chance.randint(1, 3), chance.randint(0, 2))
            one, two = chance.randrange(len(given[0])), chance.randrange(len(other[0]))
            with self.subTest(seed=seed):
                seen[self.check(given, other, one, two, seed % 6)] += 1
        self.assertGreater(seen["parted"], 80)
        self.assertGreater(seen["alike"], 10)

    def test_other_watched_vessels_of_one_net(self):
        for seed in range(200, 280):
            chance = random.Random(seed)
            given = small_net(chance, chance.randint(2, 3), chance.randint(0, 2))
            one, two = chance.sample(range(len(given[0])), 2)
            with self.subTest(seed=seed):
                self.check(given, given, one, two, seed % 6)

    def test_greater_nets(self):
        for seed in range(280, 320):
            chance = random.Random(seed)
            given = chance_net(chance, chance.randint(1, 12), chance.randint(0, 12))
            other = chance_net(chance, chance.randint(1, 12), chance.randint(0, 12))
            with self.subTest(seed=seed):
                self.check(given, other, chance.randrange(len(given[0])), chance.randrange(len(other[0])), seed % 6)


class Edges(AlikeCase):
    def test_just_three_hundred_pairs_without_pourings(self):
        given = clocks(12, 25)
        self.assertEqual(len(alike(given, given, 0, 0, 0)[1]), 300)
        self.check(given, given, 0, 0, 0)
        given = with_start(clocks(13, 23))
        self.assertEqual(len(alike(given, given, 1, 1, 0)[1]), 300)
        self.check(given, given, 1, 1, 0)

    def test_one_pair_more_without_pourings(self):
        for given in (clocks(7, 43), with_start(clocks(12, 25))):
            self.assertEqual(self.check(given, given, 0, 0, 0), "too many")

    def test_just_three_hundred_pairs_by_pourings(self):
        for given in (hand_counter(9, 30), hand_counter(59, 5), with_start(hand_counter(12, 23))):
            for most in (1, 5):
                self.assertEqual(len(alike(given, given, 1, 1, most)[1]), 300)
                self.check(given, given, 1, 1, most)

    def test_one_pair_more_by_pourings(self):
        for given in (hand_counter(6, 43), with_start(hand_counter(9, 30))):
            for most in (1, 5):
                self.assertEqual(self.check(given, given, 1, 1, most), "too many")

    def test_pairs_are_counted_and_not_states(self):
        # Each alone has twelve or twenty-five states; the pairs of them are 300, or 301 with a start.
        one, two = clocks(12), net(vessel(), vessel(25, 25), spouts=(spout(1, 1),))
        watched_never = with_idle(one)
        self.assertEqual(len(alike(watched_never, two, 1, 0, 0)[1]), 300)
        self.assertEqual(self.check(with_start(watched_never), two, 1, 0, 0), "too many")

    def test_parted_with_the_last_pair_that_may_come_up(self):
        given = counter([13, 23])
        self.assertEqual(alike(given, NEVER, 1, 1, 0), ("parted", [0] * 300))
        self.assertEqual(alike(NEVER, given, 1, 1, 0), ("parted", [0] * 300))
        self.assertEqual(self.check(counter([20, 15]), NEVER, 1, 1, 0), "too many")

    def test_parted_ahead_of_the_pair_that_is_one_too_many(self):
        given = hand_counter(42, 7)
        self.assertEqual(self.check(given, given, 1, 1, 5), "too many")
        self.assertEqual(self.check(given, NEVER, 0, 1, 5), "parted")
        self.assertEqual(self.check(given, given, 0, 1, 5), "parted")

    def test_around_the_edge_by_pourings(self):
        seen = set()
        for size in range(5, 20, 2):
            for more in (-1, 0, 1, 2):
                given = hand_counter(size, 300 // (size + 1) + more)
                for most in (1, 3):
                    seen.add(self.check(given, NEVER, 1, 1, most))
        self.assertEqual(seen, {"parted", "too many"})


class OwnLists(AlikeCase):
    def test_what_is_told_is_the_askers_own(self):
        for given, other in ((clocks(4), clocks(5)), (clocks(4), with_idle(clocks(4)))):
            due = alike(given, other, 0, 0, 2)
            kept = (due[0], list(due[1]))
            alike(given, other, 0, 0, 2)[1].append("more")
            alike(given, other, 0, 0, 2)[1].clear()
            self.assertEqual(alike(given, other, 0, 0, 2), kept)
            self.assertEqual(due, kept)

    def test_a_refusal_changes_nothing(self):
        given = clocks(7, 43)
        for _ in range(2):
            self.assert_refused(TooMany, alike, given, given, 0, 0, 0)
        self.assertEqual(alike(clocks(1), NEVER, 0, 1, 0), ("parted", [0]))


class SomewhatBeyond(AlikeCase):
    def test_no_error(self):
        given = net(vessel(3, 3))
        self.assertEqual(self.check(given, given, 0, 0, 9), "alike")
        self.assertEqual(alike(given, given, 5, 7, 2)[0], "alike")


if __name__ == "__main__":
    unittest.main()
