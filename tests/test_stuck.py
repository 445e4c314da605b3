"""Promise 16: what a stuck vessel changes first, against the plain ticks of both."""

import random
import unittest

from kinds import KindCase
from plain_run import plain_first
from plain_tick import plain_tick
from samples import (
    CLOCK_2001, SETTLING_2000, SETTLING_2001, SLOW_2000, chance_net, clocks, net, small_net, spout, vessel, with_idle,
)
from tipwell.errors import NoVessel, TooLong
from tipwell.layouts import bell_for, counter
from tipwell.stuck import stuck

FAR = 10 ** 60 - 1


def plain_stuck(given, number, last_tick=2000):
    """The pair, None, or "too long", by going both tick by tick."""
    nothing = (0,) * len(given[0])
    pairs = [(plain_first(given), plain_first(given))]
    for tick in range(last_tick + 1):
        if pairs[tick] in pairs[:tick]:
            return None
        behind, tipped, _ = plain_tick(given, pairs[tick][0], nothing)
        stuck_behind, stuck_tipped, _ = plain_tick(given, pairs[tick][1], nothing, number)
        others = set(tipped).symmetric_difference(stuck_tipped) - {number}
        if others:
            return tick, min(others)
        pairs.append((behind, stuck_behind))
    return "too long"


class StuckCase(KindCase):
    def assert_told(self, given, number, due):
        told = stuck(given, number)
        self.assertEqual(told, due)
        if due is None:
            self.assertIsNone(told)
        else:
            self.assert_numbers(told, 2)

    def check(self, given, number):
        due = plain_stuck(given, number)
        if due == "too long":
            self.assert_refused(TooLong, stuck, given, number)
        else:
            self.assert_told(given, number, due)
        return due


class Stuck(StuckCase):
    def test_by_hand(self):
        self.assert_told(counter([3, 2]), 0, (6, 1))
        self.assert_told(counter([3, 2]), 1, None)
        self.assert_told(counter([3, 2, 2]), 1, (13, 2))
        self.assert_told(counter([1, 1]), 0, (1, 1))
        self.assert_told(bell_for([4, 7]), 1, (4, 0))
        self.assert_told(bell_for([4, 7]), 2, (7, 0))
        self.assert_told(bell_for([4, 7]), 0, None)

    def test_its_own_tips_are_none_of_it(self):
        self.assert_told(clocks(1), 0, None)
        self.assert_told(clocks(4, 3), 0, None)

    def test_one_that_never_tips_anyway(self):
        self.assert_told(net(vessel()), 0, None)
        self.assert_told(with_idle(clocks(4, 3)), 2, None)

    def test_with_tick_0_nothing_else_is_changed(self):
        # What a vessel sends, and the spouts that it turns, are there with the next tick first.
        given = net(vessel(1, 1, ((1, 1),)), vessel(1, 1), spouts=(spout(0, 1),))
        self.assert_told(given, 0, (1, 1))

    def test_the_least_of_several(self):
        outs = ((3, 1), (1, 1), (2, 1))
        given = net(vessel(3, 3, outs), vessel(1, 1), vessel(1, 1), vessel(1, 1), spouts=(spout(0, 1),))
        self.assert_told(given, 0, (3, 1))
        given = net(vessel(1, 1), vessel(1, 1), vessel(3, 3, ((1, 1), (0, 1), (1, 1))), spouts=(spout(2, 1),))
        self.assert_told(given, 2, (3, 0))

    def test_less_than_itself_and_greater(self):
        given = net(vessel(1, 1), vessel(2, 2, ((0, 1), (None, 1))), spouts=(spout(1, 1),))
        self.assert_told(given, 1, (2, 0))

    def test_by_its_acts(self):
        given = net(vessel(2, 2, acts=(("shut", 1),)), vessel(5, 5), spouts=(spout(0, 1), spout(1, 1)))
        self.assert_told(given, 0, (4, 1))
        given = net(vessel(2, 2, acts=(("open", 1),)), vessel(5, 5), spouts=(spout(0, 1), spout(1, 1, False)))
        self.assert_told(given, 0, (6, 1))

    def test_it_still_runs_over_its_brim(self):
        given = net(vessel(5, 5, spill=1), vessel(2, 2), spouts=(spout(0, 1),))
        self.assert_told(given, 0, (7, 1))
        given = net(vessel(5, 9, spill=1), vessel(2, 2), spouts=(spout(0, 1),))
        self.assert_told(given, 0, (11, 1))
        # To the ground: nothing of it tips another one.
        given = net(vessel(5, 9), vessel(2, 2), spouts=(spout(0, 1),))
        self.assert_told(given, 0, None)

    def test_it_runs_over_at_the_greatest_brim(self):
        given = net(vessel(60, 200, spill=1), vessel(60, 60), spouts=(spout(0, 60),))
        # It has 240 with tick 3, so 40 and then 60 run over, and come a tick later.
        self.assert_told(given, 0, (5, 1))

    def test_it_keeps_what_comes_back_to_it(self):
        given = net(vessel(2, 4, ((0, 1), (1, 1)), holds=True), vessel(3, 3), spouts=(spout(0, 1),))
        self.check(given, 0)
        self.check(given, 1)

    def test_each_vessel_of_nets_by_chance(self):
        seen = {"pair": 0, "none": 0, "too long": 0}
        for seed in range(60):
            chance = random.Random(seed)
            make = chance.choice((chance_net, small_net))
            given = make(chance, chance.randint(1, 12), chance.randint(0, 12))
            for number in range(len(given[0])):
                with self.subTest(seed=seed, number=number):
                    due = self.check(given, number)
                    seen["none" if due is None else "too long" if due == "too long" else "pair"] += 1
        self.assertGreater(seen["pair"], 80)
        self.assertGreater(seen["none"], 80)


class Edges(StuckCase):
    def test_changed_with_tick_2000(self):
        self.assert_told(counter([40, 50]), 0, (2000, 1))
        self.check(counter([40, 50]), 0)
        self.assert_told(counter([37, 54, 1]), 1, (1999, 2))

    def test_changed_with_tick_2001(self):
        for given in (counter([4, 20, 25]), counter([40, 50, 1])):
            self.assertEqual(plain_stuck(given, 1, 2001), (2001, 2))
            self.assert_refused(TooLong, stuck, given, 1)

    def test_a_pair_again_first_at_tick_2000(self):
        for given in (with_idle(SLOW_2000), with_idle(SETTLING_2000)):
            number = len(given[0]) - 1
            self.assert_told(given, number, None)
            self.assertEqual(plain_stuck(given, number, 1999), "too long")

    def test_a_pair_again_first_at_tick_2001(self):
        for given in (with_idle(CLOCK_2001), with_idle(SETTLING_2001)):
            number = len(given[0]) - 1
            self.assert_refused(TooLong, stuck, given, number)
            self.assertIsNone(plain_stuck(given, number, 2001))

    def test_pairs_and_not_states_come_again(self):
        # Alone the net comes again each 2 ticks; the stuck one fills for a while, and runs over late.
        given = net(vessel(2, 60, spill=1), vessel(3, 3), spouts=(spout(0, 1),))
        self.assert_told(given, 0, (63, 1))

    def test_far_too_long(self):
        self.assert_refused(TooLong, stuck, with_idle(clocks(59, 60)), 2)


class Refusals(StuckCase):
    def test_no_vessel_ahead_of_all_else(self):
        for given in (net(vessel()), counter([3, 2]), clocks(59, 60), with_idle(CLOCK_2001)):
            many = len(given[0])
            for number in (-1, -many, many, many + 1, FAR, -FAR):
                self.assert_refused(NoVessel, stuck, given, number)

    def test_a_refusal_changes_nothing(self):
        given = counter([3, 2])
        self.assert_refused(NoVessel, stuck, given, 2)
        self.assert_refused(TooLong, stuck, with_idle(CLOCK_2001), 3)
        self.assert_told(given, 0, (6, 1))


if __name__ == "__main__":
    unittest.main()
