"""Promises 10 and 11: rounds, and each vessel's tips for ever."""

import random
import unittest

from kinds import KindCase
from plain_round import plain_round, plain_tips, plain_walk
from samples import (
    CLOCK_2001, SETTLING_2000, SETTLING_2001, SLOW_2000, chance_net, clocks, net, settling, spout, vessel,
)
from tipwell.errors import NoVessel, TooLong
from tipwell.rounds import round_of, tick_of, tips_by

FAR = 10 ** 60 - 1
# Vessel 0 tips with each of the first four ticks, till vessel 1 shuts its spout with the fourth.
FOUR_TIPS = net(
    vessel(1, 1), vessel(4, 4, acts=(("shut", 0), ("shut", 1))), spouts=(spout(0, 1), spout(1, 1))
)
# It never comes again in time: 59 * 60 ticks.
FAR_ROUND = clocks(59, 60)


class RoundOf(KindCase):
    def assert_round(self, given, due):
        told = round_of(given)
        self.assertEqual(told, due)
        self.assert_numbers(told, 2)

    def test_nothing_ever_happens(self):
        self.assert_round(net(vessel()), (0, 1))
        self.assert_round(net(vessel(), vessel(), spouts=(spout(door=False), spout(flow=0))), (0, 1))

    def test_from_the_first_state_on(self):
        self.assert_round(clocks(1), (0, 1))
        self.assert_round(clocks(2), (0, 2))
        self.assert_round(clocks(4, 6), (0, 12))

    def test_settled_later(self):
        self.assert_round(settling((), 1), (1, 1))
        self.assert_round(settling((), 5), (5, 1))
        self.assert_round(settling((6,), 5), (5, 6))

    def test_what_is_coming_and_the_doors_are_of_the_state(self):
        given = net(vessel(3, 3, ((1, 1), (None, 2))), vessel(2, 2), spouts=(spout(0, 1),))
        self.assert_round(given, (1, 6))
        given = net(vessel(1, 1, acts=(("turn", 1), ("turn", 2))), vessel(1, 1, acts=(("shut", 1),)),
                    spouts=(spout(0, 1), spout(1, 0, False), spout(1, 0, False)))
        self.assert_round(given, (0, 2))

    def test_by_chance(self):
        with_round = 0
        for seed in range(80):
            chance = random.Random(seed)
            given = chance_net(chance, chance.randint(1, 12), chance.randint(0, 12))
            due = plain_round(plain_walk(given, 2000)[0]) if seed % 8 == 0 else plain_round(plain_walk(given, 150)[0])
            with self.subTest(seed=seed):
                if due is not None:
                    with_round += 1
                    self.assert_round(given, due)
        self.assertGreater(with_round, 60)

    def test_first_again_at_tick_2000(self):
        self.assert_round(SLOW_2000, (0, 2000))
        self.assert_round(SETTLING_2000, (2, 1998))
        self.assert_round(clocks(47, 42), (0, 1974))

    def test_first_again_at_tick_2001(self):
        for given in (CLOCK_2001, SETTLING_2001, FAR_ROUND, clocks(53, 38)):
            self.assert_refused(TooLong, round_of, given)

    def test_the_edges_by_the_plain_ticks(self):
        for given, due in ((SLOW_2000, (0, 2000)), (SETTLING_2000, (2, 1998))):
            states, _ = plain_walk(given, 2000)
            self.assertEqual(len(set(states)), 2000)
            self.assertEqual(states[2000], states[due[0]])
        for given, ahead in ((CLOCK_2001, 0), (SETTLING_2001, 3)):
            states, _ = plain_walk(given, 2001)
            self.assertEqual(len(set(states[:2001])), 2001)
            self.assertEqual(states[2001], states[ahead])


class Tips(KindCase):
    def by_chance(self, seeds):
        for seed in seeds:
            chance = random.Random(seed)
            given = chance_net(chance, chance.randint(1, 12), chance.randint(0, 12))
            found = plain_round(plain_walk(given, 100)[0])
            if found is not None:
                yield chance, given, found

    def test_over_several_rounds(self):
        for chance, given, (ahead, length) in self.by_chance(range(50)):
            many = ahead + 3 * length + 2
            tipped = plain_walk(given, many)[1]
            for number in range(len(given[0])):
                tips = plain_tips(tipped, number)
                for ticks in sorted({0, 1, ahead, ahead + 1, ahead + length, many, chance.randint(0, many)}):
                    told = tips_by(given, number, ticks)
                    self.assertEqual(told, sum(tick < ticks for tick in tips))
                    self.assertIs(type(told), int)
                for place, tick in list(enumerate(tips, 1))[:3] + list(enumerate(tips, 1))[-3:]:
                    told = tick_of(given, number, place)
                    self.assertEqual(told, tick)
                    self.assertIs(type(told), int)

    def test_every_tick_and_every_tip_of_some(self):
        shut_later = net(
            vessel(3, 3, ((1, 1), (None, 2)), acts=(("open", 1),)), vessel(2, 2, acts=(("turn", 0), ("turn", 1))),
            vessel(4, 9, ((0, 1), (None, 2)), holds=True), spouts=(spout(0, 1), spout(2, 2, False)),
        )
        for given in (clocks(4, 6), settling((6,), 5), shut_later):
            ahead, length = plain_round(plain_walk(given, 200)[0])
            many = ahead + 4 * length + 3
            tipped = plain_walk(given, many)[1]
            for number in range(len(given[0])):
                tips = plain_tips(tipped, number)
                self.assertEqual(
                    [tips_by(given, number, ticks) for ticks in range(many + 1)],
                    [sum(tick < ticks for tick in tips) for ticks in range(many + 1)],
                )
                self.assertEqual([tick_of(given, number, place + 1) for place in range(len(tips))], tips)

    def test_far_ones_by_reckoning(self):
        for chance, given, (ahead, length) in self.by_chance(range(50, 80)):
            tipped = plain_walk(given, ahead + length)[1]
            for number in range(len(given[0])):
                tips = plain_tips(tipped, number)
                early = sum(tick < ahead for tick in tips)
                in_round = len(tips) - early
                rounds, rest = chance.randint(10 ** 40, 10 ** 55), chance.randrange(length)
                due = early + rounds * in_round + sum(ahead <= tick < ahead + rest for tick in tips)
                self.assertEqual(tips_by(given, number, ahead + rounds * length + rest), due)
                if in_round:
                    place = chance.randrange(in_round)
                    due = tips[early + place] + rounds * length
                    self.assertEqual(tick_of(given, number, early + rounds * in_round + place + 1), due)

    def test_farthest(self):
        given = clocks(7)
        self.assertEqual(tips_by(given, 0, FAR), FAR // 7)
        self.assertEqual(tick_of(given, 0, FAR), 7 * FAR - 1)
        given = settling((7,), 50)
        self.assertEqual([tips_by(given, 0, FAR), tips_by(given, 1, FAR)], [FAR // 7, 1])
        self.assertEqual([tick_of(given, 0, FAR), tick_of(given, 1, FAR)], [7 * FAR - 1, None])

    def test_one_answers_the_other(self):
        for chance, given, _ in self.by_chance(range(80, 100)):
            for number in range(len(given[0])):
                place = chance.choice((1, 2, chance.randint(1, 10 ** 60 - 1)))
                tick = tick_of(given, number, place)
                if tick is None:
                    self.assertLess(tips_by(given, number, FAR), place)
                else:
                    self.assertEqual(tips_by(given, number, tick), place - 1)
                    self.assertEqual(tips_by(given, number, tick + 1), place)

    def test_never_so_often(self):
        given = net(vessel(), vessel(1, 1), spouts=(spout(1, 1),))
        for place in (1, 2, FAR):
            self.assertIsNone(tick_of(given, 0, place))
        self.assertEqual(tips_by(given, 0, FAR), 0)

    def test_tips_ahead_of_the_round_and_none_in_it(self):
        given = FOUR_TIPS
        self.assertEqual(round_of(given), (4, 1))
        self.assertEqual([tick_of(given, 0, place) for place in (1, 2, 3, 4, 5, FAR)], [0, 1, 2, 3, None, None])
        self.assertEqual([tips_by(given, 0, ticks) for ticks in (0, 1, 3, 4, 5, FAR)], [0, 1, 3, 4, 4, 4])

    def test_rounds_of_the_greatest_length(self):
        for given in (SLOW_2000, SETTLING_2000):
            ahead, length = round_of(given)
            tipped = plain_walk(given, 6003)[1]
            for number in range(len(given[0])):
                tips = plain_tips(tipped, number)
                for ticks in (0, 1, 1999, 2000, 2001, 3999, 4000, 4001, 6003):
                    self.assertEqual(tips_by(given, number, ticks), sum(tick < ticks for tick in tips))
                for place in (1, len(tips) // 2, len(tips)):
                    if 1 <= place <= len(tips):
                        self.assertEqual(tick_of(given, number, place), tips[place - 1])


class Refusals(KindCase):
    def test_no_vessel(self):
        for given in (clocks(2), clocks(4, 6), FAR_ROUND, CLOCK_2001):
            many = len(given[0])
            for number in (-1, -many, many, many + 1, FAR, -FAR):
                for count in (0, 1, 5, FAR):
                    self.assert_refused(NoVessel, tips_by, given, number, count)
                    self.assert_refused(NoVessel, tick_of, given, number, max(1, count))

    def test_too_long_of_however_few_ticks(self):
        for given in (CLOCK_2001, SETTLING_2001, FAR_ROUND):
            for number in range(len(given[0])):
                for count in (0, 1, FAR):
                    self.assert_refused(TooLong, tips_by, given, number, count)
                    self.assert_refused(TooLong, tick_of, given, number, max(1, count))


class SomewhatBeyond(KindCase):
    def test_no_error(self):
        for given in (clocks(3), settling((), 4), net(vessel()), FOUR_TIPS):
            self.assertEqual([tips_by(given, 0, -1), tips_by(given, 0, -9)], [0, 0])
            self.assertIsNone(tick_of(given, 0, 0))
        self.assertEqual(tips_by(clocks(3), 0, 10 ** 70), 10 ** 70 // 3)


if __name__ == "__main__":
    unittest.main()
