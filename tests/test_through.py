"""Promise 20: the sums of a round, and what came and went within so many ticks, by the plain ticks."""

import unittest

from kinds import KindCase
from plain_round import plain_round, plain_through, plain_tips
from samples import (
    CLOCK_2001, SETTLING_2000, SETTLING_2001, SLOW_2000, chance_given, clocks, net, settling, spout, vessel,
)
from tipwell.errors import TooLong
from tipwell.layouts import bell_for, counter
from tipwell.rounds import round_of, tips_by
from tipwell.through import came_by, grounded_by, round_sums

FAR = 10 ** 60 - 1
# It never comes again in time: 59 * 60 ticks.
FAR_ROUND = clocks(59, 60)
# Spouts that are turned, something that stays and goes round, something that runs over, a round behind tick 0.
BUSY = net(
    vessel(3, 4, ((1, 2), (None, 1)), spill=2, acts=(("turn", 1),)), vessel(4, 9, ((0, 1), (2, 2)), holds=True),
    vessel(5, 5, ((1, 1), (None, 3))), spouts=(spout(0, 2), spout(1, 3, False), spout(2, 0)),
)


def by_chance(seeds, longest=120):
    """Nets whose states come again within so many ticks, with their rounds."""
    for seed in seeds:
        chance, given = chance_given(seed)
        found = plain_round(plain_through(given, longest)[0])
        if found is not None:
            yield chance, given, found


class ThroughCase(KindCase):
    def assert_sums(self, given, due):
        told = round_sums(given)
        self.assertEqual(told, due)
        self.assertIs(type(told), tuple)
        came, grounded, tips = told
        self.assertIs(type(came), int)
        self.assertIs(type(grounded), int)
        self.assertEqual(came, grounded)
        self.assert_numbers(tips, len(given[0]))

    def plain_sums(self, given, ahead, length):
        _, tipped, came, grounded = plain_through(given, ahead + length)
        tips = tuple(len(plain_tips(tipped[ahead:], number)) for number in range(len(given[0])))
        return sum(came[ahead:]), sum(grounded[ahead:]), tips

    def assert_by(self, given, ticks, came, grounded):
        told = came_by(given, ticks), grounded_by(given, ticks)
        self.assertEqual(told, (came, grounded))
        self.assert_numbers(told, 2)

    def assert_each_tick(self, given, many):
        states, _, came, grounded = plain_through(given, many)
        for ticks in range(many + 1):
            self.assert_by(given, ticks, sum(came[:ticks]), sum(grounded[:ticks]))
            held, coming, _ = states[ticks]
            self.assertEqual(came_by(given, ticks) - grounded_by(given, ticks), sum(held) + sum(coming))


class RoundSums(ThroughCase):
    def test_by_hand(self):
        self.assert_sums(clocks(4), (4, 4, (1,)))
        self.assert_sums(clocks(4, 6), (24, 24, (3, 2)))
        self.assert_sums(counter([3, 4]), (12, 12, (4, 1)))

    def test_of_length_1(self):
        self.assert_sums(clocks(1), (1, 1, (1,)))
        self.assert_sums(net(vessel(3, 3), spouts=(spout(0, 60),)), (60, 60, (1,)))

    def test_without_spouts(self):
        self.assert_sums(net(vessel()), (0, 0, (0,)))
        self.assert_sums(net(vessel(), vessel(1, 1, ((0, 1),))), (0, 0, (0, 0)))

    def test_nothing_flows(self):
        self.assert_sums(net(vessel(), spouts=(spout(door=False), spout(flow=0))), (0, 0, (0,)))

    def test_what_was_ahead_of_the_round_is_not_in_it(self):
        self.assert_sums(settling((), 5), (0, 0, (0,)))
        self.assert_sums(settling((6,), 5), (6, 6, (1, 0)))
        self.assert_sums(bell_for([2, 3, 50]), (0, 0, (0, 0, 0, 0)))

    def test_the_first_and_the_last_tick_of_the_round_are_in_it(self):
        # Vessel 0 tips with each tick, so none may be left out and none told twice.
        self.assert_sums(net(vessel(1, 1), vessel(2, 2), spouts=(spout(0, 1), spout(1, 1))), (4, 4, (2, 1)))

    def test_what_stays_ahead_of_the_round_comes_in_but_does_not_go(self):
        # The first 5 stay for ever: it tips from 5 on, but holds all that is less than 10 parts.
        given = net(vessel(5, 5, ((None, 10),), holds=True), spouts=(spout(0, 1),))
        self.assert_sums(given, (1, 1, (1,)))
        self.assertEqual(round_of(given), (5, 1))

    def test_by_chance(self):
        seen = {"ahead 0": 0, "ahead": 0, "length 1": 0, "length": 0, "no spouts": 0, "something comes": 0}
        for _, given, (ahead, length) in by_chance(range(150)):
            due = self.plain_sums(given, ahead, length)
            self.assert_sums(given, due)
            seen["ahead" if ahead else "ahead 0"] += 1
            seen["length" if length > 1 else "length 1"] += 1
            seen["no spouts"] += not given[1]
            seen["something comes"] += due[0] > 0
        self.assertGreater(min(seen.values()), 5, seen)

    def test_of_the_greatest_length(self):
        for given in (SLOW_2000, SETTLING_2000):
            self.assert_sums(given, self.plain_sums(given, *plain_round_of(given)))


def plain_round_of(given):
    return plain_round(plain_through(given, 2000)[0])


class Within(ThroughCase):
    def test_of_0_ticks(self):
        for given in (clocks(4), net(vessel()), BUSY, settling((6,), 5)):
            self.assert_by(given, 0, 0, 0)

    def test_by_hand(self):
        given = clocks(4)
        self.assertEqual([came_by(given, ticks) for ticks in range(6)], [0, 1, 2, 3, 4, 5])
        self.assertEqual([grounded_by(given, ticks) for ticks in range(9)], [0, 0, 0, 0, 4, 4, 4, 4, 8])
        given = settling((), 5)
        self.assertEqual([came_by(given, ticks) for ticks in range(8)], [0, 1, 2, 3, 4, 5, 5, 5])
        self.assertEqual([grounded_by(given, ticks) for ticks in range(8)], [0, 0, 0, 0, 0, 5, 5, 5])

    def test_each_tick_of_several_rounds(self):
        for given in (clocks(4, 6), settling((6,), 5), BUSY, counter([3, 4]), net(vessel())):
            ahead, length = plain_round_of(given)
            self.assert_each_tick(given, ahead + 4 * length + 2)

    def test_each_tick_by_chance(self):
        seen = {"ahead 0": 0, "ahead": 0}
        for _, given, (ahead, length) in by_chance(range(150, 220), 25):
            self.assert_each_tick(given, ahead + 3 * length + 1)
            seen["ahead" if ahead else "ahead 0"] += 1
        self.assertGreater(min(seen.values()), 5, seen)

    def test_far_ones_by_rounds(self):
        for chance, given, (ahead, length) in by_chance(range(220, 280)):
            _, _, came, grounded = plain_through(given, ahead + length)
            rounds, rest = chance.randint(10 ** 40, 10 ** 57), chance.randrange(length)
            self.assert_by(
                given, ahead + rounds * length + rest,
                sum(came[:ahead + rest]) + rounds * sum(came[ahead:]),
                sum(grounded[:ahead + rest]) + rounds * sum(grounded[ahead:]),
            )

    def test_farthest(self):
        self.assert_by(clocks(7), FAR, FAR, FAR - FAR % 7)
        self.assert_by(settling((), 50), FAR, 50, 50)
        self.assert_by(net(vessel()), FAR, 0, 0)

    def test_a_round_more_is_more_by_its_sums(self):
        for chance, given, (ahead, length) in by_chance(range(280, 330)):
            came, grounded, tips = round_sums(given)
            for ticks in (ahead, ahead + chance.randrange(length), ahead + chance.randint(0, 10 ** 50)):
                self.assertEqual(came_by(given, ticks + length) - came_by(given, ticks), came)
                self.assertEqual(grounded_by(given, ticks + length) - grounded_by(given, ticks), grounded)
                for number, many in enumerate(tips):
                    more = tips_by(given, number, ticks + length) - tips_by(given, number, ticks)
                    self.assertEqual(more, many)

    def test_rounds_of_the_greatest_length(self):
        for given in (SLOW_2000, SETTLING_2000):
            _, _, came, grounded = plain_through(given, 6003)
            for ticks in (0, 1, 2, 3, 1999, 2000, 2001, 2002, 3999, 4000, 4001, 6003):
                self.assert_by(given, ticks, sum(came[:ticks]), sum(grounded[:ticks]))


class Refusals(ThroughCase):
    def test_too_long_of_however_few_ticks(self):
        for given in (CLOCK_2001, SETTLING_2001, FAR_ROUND):
            self.assert_refused(TooLong, round_sums, given)
            for ticks in (0, 1, 2000, FAR):
                self.assert_refused(TooLong, came_by, given, ticks)
                self.assert_refused(TooLong, grounded_by, given, ticks)

    def test_a_refusal_changes_nothing(self):
        self.assert_refused(TooLong, round_sums, FAR_ROUND)
        self.assert_sums(clocks(4), (4, 4, (1,)))
        self.assert_by(clocks(4), 4, 4, 4)


class SomewhatBeyond(ThroughCase):
    def test_no_error(self):
        for given in (clocks(3), settling((), 4), net(vessel())):
            self.assert_by(given, -1, 0, 0)
            self.assert_by(given, -9, 0, 0)
        self.assert_by(clocks(3), 3 * 10 ** 70, 3 * 10 ** 70, 3 * 10 ** 70)
        self.assert_sums(clocks(61), (61, 61, (1,)))


if __name__ == "__main__":
    unittest.main()
