"""Promises 5 to 8: states, what is poured, the tick, and what came in against where it is."""

import random
import unittest

from kinds import KindCase
from plain_tick import plain_tick
from samples import chance_net, chance_pouring, net, spout, vessel
from tipwell.nets import is_net
from tipwell.ticks import first_state, tick_behind


def state(held, coming=None, doors=()):
    return (tuple(held), tuple(coming or (0,) * len(held)), tuple(doors))


def rows(given, pourings):
    """What is told of tick after tick, from the first state on."""
    told, now = [], first_state(given)
    for poured in pourings:
        told.append(tick_behind(given, now, poured))
        now = told[-1][0]
    return told


class FirstState(KindCase):
    def check(self, given, due):
        told = first_state(given)
        self.assertEqual(told, due)
        self.assert_state(given, told)

    def test_no_spout(self):
        self.check(net(vessel()), ((0,), (0,), ()))
        self.check(net(vessel(), vessel(), vessel()), ((0, 0, 0), (0, 0, 0), ()))

    def test_doors_as_the_spouts_tell(self):
        spouts = (spout(door=True), spout(flow=0, door=False), spout(1, door=False), spout(1, 60, True))
        self.check(net(vessel(), vessel(), spouts=spouts), ((0, 0), (0, 0), (True, False, False, True)))

    def test_most_vessels_and_spouts(self):
        given = net(*[vessel()] * 12, spouts=(spout(door=False),) * 12)
        self.check(given, ((0,) * 12, (0,) * 12, (False,) * 12))

    def test_nets_by_chance(self):
        chance = random.Random(5)
        for vessel_count in range(1, 13):
            for spout_count in range(13):
                given = chance_net(chance, vessel_count, spout_count)
                doors = tuple(door for _, _, door in given[1])
                self.check(given, ((0,) * vessel_count, (0,) * vessel_count, doors))


class TickCase(KindCase):
    def check(self, given, now, poured, behind, tipped=(), grounded=0):
        self.assertIs(is_net(given), True)
        told = tick_behind(given, now, poured)
        self.assertEqual(told, (behind, tipped, grounded))
        self.assert_tick(given, told)
        self.assertEqual(tick_behind(given, now, poured), told)


class WhatItHas(TickCase):
    def test_nothing(self):
        self.check(net(vessel()), state([0]), (0,), state([0]))

    def test_what_it_held(self):
        self.check(net(vessel(50, 60), vessel(50, 60)), state([7, 2]), (0, 0), state([7, 2]))

    def test_what_is_coming(self):
        self.check(net(vessel(50, 60), vessel(50, 60)), state([0, 1], [4, 8]), (0, 0), state([4, 9]))

    def test_what_is_poured(self):
        self.check(net(vessel(50, 60), vessel(50, 60)), state([0, 1]), (3, 30), state([3, 31]))

    def test_open_and_shut_spouts(self):
        given = net(vessel(50, 60), vessel(50, 60), spouts=(spout(1, 7, False), spout(0, 3, True)))
        self.check(given, state([0, 0], doors=[False, True]), (0, 0), state([3, 0], doors=[False, True]))
        self.check(given, state([0, 0], doors=[True, False]), (0, 0), state([0, 7], doors=[True, False]))
        self.check(given, state([0, 0], doors=[True, True]), (0, 0), state([3, 7], doors=[True, True]))
        self.check(given, state([0, 0], doors=[False, False]), (0, 0), state([0, 0], doors=[False, False]))

    def test_several_spouts_to_one_vessel(self):
        spouts = (spout(1, 7), spout(1, 7), spout(0, 0), spout(1, 11, False), spout(1, 1))
        doors = [True, True, True, False, True]
        given = net(vessel(50, 60), vessel(50, 60), spouts=spouts)
        self.check(given, state([0, 0], doors=doors), (0, 0), state([0, 15], doors=doors))

    def test_all_together(self):
        given = net(vessel(60, 200), spouts=(spout(0, 10), spout(0, 20)))
        self.check(given, state([1], [2], [True, True]), (4,), state([37], doors=[True, True]))

    def test_all_together_makes_it_tip(self):
        given = net(vessel(37, 200), spouts=(spout(0, 10), spout(0, 20)))
        self.check(given, state([1], [2], [True, True]), (4,), state([0], doors=[True, True]), (0,), 37)


class OverTheBrim(TickCase):
    def test_to_the_ground(self):
        given = net(vessel(5, 9, outs=((1, 1),)), vessel(50, 60))
        self.check(given, state([0, 0]), (9, 0), state([0, 0], [0, 9]), (0,), 0)
        self.check(given, state([0, 0]), (10, 0), state([0, 0], [0, 9]), (0,), 1)
        self.check(given, state([0, 0]), (1000, 0), state([0, 0], [0, 9]), (0,), 991)

    def test_to_the_spill_vessel(self):
        given = net(vessel(5, 9, spill=2), vessel(), vessel(50, 60))
        self.check(given, state([0, 0, 0]), (9, 0, 0), state([0, 0, 0]), (0,), 9)
        self.check(given, state([0, 0, 0]), (10, 0, 0), state([0, 0, 0], [0, 0, 1]), (0,), 9)
        self.check(given, state([0, 0, 0]), (1000, 0, 0), state([0, 0, 0], [0, 0, 991]), (0,), 9)

    def test_brim_that_is_the_size(self):
        given = net(vessel(5, 5, spill=1), vessel(50, 60))
        self.check(given, state([0, 0]), (4, 0), state([4, 0]))
        self.check(given, state([0, 0]), (5, 0), state([0, 0]), (0,), 5)
        self.check(given, state([0, 0]), (6, 0), state([0, 0], [0, 1]), (0,), 5)

    def test_over_where_the_tip_moves_nothing(self):
        given = net(vessel(5, 9, outs=((1, 10),), holds=True, spill=1), vessel(50, 60))
        self.check(given, state([9, 0]), (4, 0), state([9, 0], [0, 4]), (0,), 0)
        lost = net(vessel(5, 9, outs=((1, 10),), holds=True), vessel(50, 60))
        self.check(lost, state([9, 0]), (4, 0), state([9, 0]), (0,), 4)

    def test_spill_and_out_to_the_same_vessel(self):
        given = net(vessel(5, 9, outs=((1, 2),), spill=1), vessel(50, 60))
        self.check(given, state([0, 0]), (12, 0), state([0, 0], [0, 11]), (0,), 1)

    def test_what_ran_over_tips_the_spill_vessel_with_the_next_tick_or_does_not(self):
        given = net(vessel(5, 9, spill=1), vessel(4, 4, holds=True))
        told = rows(given, [(12, 0), (0, 0), (10, 0), (0, 0), (0, 0)])
        self.assertEqual(told, [
            (state([0, 0], [0, 3]), (0,), 9),
            (state([0, 3]), (), 0),
            (state([0, 3], [0, 1]), (0,), 9),
            (state([0, 0]), (1,), 4),
            (state([0, 0]), (), 0),
        ])

    def test_a_full_vessel_runs_over_of_its_held_coming_and_flow(self):
        given = net(vessel(5, 9, outs=((None, 10),), holds=True, spill=1), vessel(50, 60), spouts=(spout(0, 2),))
        self.check(given, state([9, 0], [3, 0], [True]), (0, 0), state([9, 0], [0, 5], [True]), (0,), 0)


class Tipping(TickCase):
    def test_at_the_size_and_one_below(self):
        for size in (1, 5, 60):
            given = net(vessel(size, 200, outs=((1, 1),)), vessel(60, 200))
            self.check(given, state([0, 0]), (size - 1, 0), state([size - 1, 0]))
            self.check(given, state([0, 0]), (size, 0), state([0, 0], [0, size]), (0,))
            self.check(given, state([0, 0]), (size + 1, 0), state([0, 0], [0, size + 1]), (0,))

    def test_parts_as_often_as_their_sum_goes_whole(self):
        given = net(vessel(5, 99, outs=((1, 2), (2, 1)), holds=True), vessel(60, 99), vessel(60, 99))
        for has in range(5, 60):
            often, left = has // 3, has - has // 3 * 3
            self.check(given, state([0, 0, 0]), (has, 0, 0), state([left, 0, 0], [0, 2 * often, often]), (0,))

    def test_sum_of_all_three_outs(self):
        outs = ((1, 4), (None, 5), (2, 6))
        given = net(vessel(1, 200, outs=outs, holds=True), vessel(60, 99), vessel(60, 99))
        self.check(given, state([0, 0, 0]), (14, 0, 0), state([14, 0, 0]), (0,), 0)
        self.check(given, state([0, 0, 0]), (15, 0, 0), state([0, 0, 0], [0, 4, 6]), (0,), 5)
        self.check(given, state([0, 0, 0]), (29, 0, 0), state([14, 0, 0], [0, 4, 6]), (0,), 5)
        self.check(given, state([0, 0, 0]), (30, 0, 0), state([0, 0, 0], [0, 8, 12]), (0,), 10)

    def test_sum_greater_than_what_it_has(self):
        outs = ((1, 60), (1, 60), (1, 60))
        held = net(vessel(5, 200, outs=outs, holds=True), vessel(60, 200))
        lost = net(vessel(5, 200, outs=outs, holds=False), vessel(60, 200))
        self.check(held, state([0, 0]), (179, 0), state([179, 0]), (0,), 0)
        self.check(lost, state([0, 0]), (179, 0), state([0, 0]), (0,), 179)
        self.check(held, state([0, 0]), (180, 0), state([0, 0], [0, 180]), (0,), 0)
        self.check(lost, state([0, 0]), (180, 0), state([0, 0], [0, 180]), (0,), 0)

    def test_what_is_left(self):
        held = net(vessel(5, 9, outs=((1, 3),), holds=True), vessel(60, 60))
        lost = net(vessel(5, 9, outs=((1, 3),), holds=False), vessel(60, 60))
        self.check(held, state([0, 0]), (8, 0), state([2, 0], [0, 6]), (0,), 0)
        self.check(lost, state([0, 0]), (8, 0), state([0, 0], [0, 6]), (0,), 2)

    def test_what_is_left_beside_an_out_to_the_ground(self):
        lost = net(vessel(5, 9, outs=((1, 1), (None, 2)), holds=False), vessel(60, 60))
        self.check(lost, state([0, 0]), (8, 0), state([0, 0], [0, 2]), (0,), 6)

    def test_a_vessel_that_does_not_tip_holds_also_where_it_loses(self):
        given = net(vessel(5, 9, holds=False), vessel(5, 9, holds=True))
        self.check(given, state([0, 0]), (4, 4), state([4, 4]))

    def test_several_outs_to_one_vessel(self):
        given = net(vessel(5, 99, outs=((1, 2), (None, 1), (1, 3))), vessel(60, 60))
        self.check(given, state([0, 0]), (13, 0), state([0, 0], [0, 10]), (0,), 3)

    def test_outs_to_itself_and_to_the_ground(self):
        given = net(vessel(5, 99, outs=((0, 2), (None, 3)), holds=True))
        self.check(given, state([0]), (11,), state([1], [4]), (0,), 6)
        self.check(given, state([1], [4]), (0,), state([0], [2]), (0,), 3)
        self.check(given, state([0], [2]), (0,), state([2]))

    def test_two_vessels_to_one(self):
        given = net(vessel(5, 9, outs=((2, 1),)), vessel(3, 9, outs=((2, 1),)), vessel(60, 60))
        self.check(given, state([0, 0, 0]), (5, 4, 1), state([0, 0, 1], [0, 0, 9]), (0, 1))

    def test_what_goes_to_a_vessel_comes_with_the_next_tick(self):
        given = net(vessel(5, 9, outs=((1, 1),)), vessel(5, 9, outs=((0, 1),)))
        self.assertEqual(rows(given, [(5, 0), (0, 0), (0, 0), (0, 1)]), [
            (state([0, 0], [0, 5]), (0,), 0),
            (state([0, 0], [5, 0]), (1,), 0),
            (state([0, 0], [0, 5]), (0,), 0),
            (state([0, 0], [6, 0]), (1,), 0),
        ])

    def test_each_vessel_alone(self):
        given = net(vessel(5, 9, outs=((1, 1),), spill=1), vessel(5, 9, outs=((0, 1),)))
        self.check(given, state([4, 4]), (0, 1), state([4, 0], [5, 0]), (1,))
        self.check(given, state([4, 4]), (1, 0), state([0, 4], [0, 5]), (0,))
        self.check(given, state([4, 4]), (1, 1), state([0, 0], [5, 5]), (0, 1))
        self.check(given, state([4, 4]), (9, 0), state([0, 4], [0, 13]), (0,))

    def test_those_that_tipped_are_rising(self):
        given = net(*[vessel(5, 9)] * 12)
        poured = (0, 5, 5, 0, 4, 9, 0, 0, 6, 0, 5, 5)
        behind = state([0, 0, 0, 0, 4, 0, 0, 0, 0, 0, 0, 0])
        self.check(given, state([0] * 12), poured, behind, (1, 2, 5, 8, 10, 11), 35)

    def test_grounded_is_of_this_tick_alone(self):
        given = net(vessel(5, 9))
        self.assertEqual([grounded for _, _, grounded in rows(given, [(6,), (0,), (7,), (4,)])], [6, 0, 7, 0])

    def test_grounded_from_everywhere(self):
        given = net(vessel(5, 9, outs=((None, 2), (1, 2))), vessel(5, 9, outs=((0, 4),), holds=False))
        self.check(given, state([0, 0]), (20, 6), state([0, 0], [4, 4]), (0, 1), 11 + 4 + 1 + 2)


class Acts(TickCase):
    def acting(self, *acts, doors=(False, True)):
        spouts = tuple(spout(1, 10 + number, door) for number, door in enumerate(doors))
        return net(vessel(5, 9, acts=acts), vessel(60, 200), spouts=spouts)

    def doors_behind(self, acts, doors):
        given = self.acting(*acts, doors=doors)
        self.assertIs(is_net(given), True)
        (_, _, behind), tipped, _ = tick_behind(given, first_state(given), (5, 0))
        self.assertEqual(tipped, (0,))
        return behind

    def test_each_word(self):
        for door in (False, True):
            self.assertEqual(self.doors_behind([("open", 0)], (door, True)), (True, True))
            self.assertEqual(self.doors_behind([("shut", 0)], (door, True)), (False, True))
            self.assertEqual(self.doors_behind([("turn", 0)], (door, True)), (not door, True))
            self.assertEqual(self.doors_behind([("open", 1)], (False, door)), (False, True))
            self.assertEqual(self.doors_behind([("shut", 1)], (False, door)), (False, False))
            self.assertEqual(self.doors_behind([("turn", 1)], (False, door)), (False, not door))

    def test_act_by_act_on_one_spout(self):
        for door in (False, True):
            self.assertEqual(self.doors_behind([("open", 0), ("shut", 0)], (door,)), (False,))
            self.assertEqual(self.doors_behind([("shut", 0), ("open", 0)], (door,)), (True,))
            self.assertEqual(self.doors_behind([("open", 0), ("turn", 0)], (door,)), (False,))
            self.assertEqual(self.doors_behind([("turn", 0), ("open", 0)], (door,)), (True,))
            self.assertEqual(self.doors_behind([("shut", 0), ("turn", 0)], (door,)), (True,))
            self.assertEqual(self.doors_behind([("turn", 0), ("turn", 0)], (door,)), (door,))
            self.assertEqual(self.doors_behind([("turn", 0)] * 3, (door,)), (not door,))
            self.assertEqual(self.doors_behind([("shut", 0), ("turn", 0), ("turn", 0)], (door,)), (False,))

    def test_by_the_numbers_of_the_vessels(self):
        words = [("open", "shut", False), ("shut", "open", True), ("open", "turn", False), ("turn", "open", True),
                 ("shut", "turn", True), ("turn", "shut", False)]
        for first, second, due in words:
            for door in (False, True):
                given = net(
                    vessel(5, 9, acts=((first, 0),)), vessel(), vessel(5, 9, acts=((second, 0),)),
                    spouts=(spout(1, 0, door),),
                )
                now = first_state(given)
                self.check(given, now, (5, 0, 5), state([0, 0, 0], doors=[due]), (0, 2), 10)

    def test_only_of_those_that_tipped(self):
        given = net(
            vessel(5, 9, acts=(("open", 0),)), vessel(5, 9, acts=(("shut", 1),)), spouts=(spout(0, 0, False), spout(0, 0)),
        )
        now = first_state(given)
        self.check(given, now, (4, 4), state([4, 4], doors=[False, True]))
        self.check(given, now, (5, 4), state([0, 4], doors=[True, True]), (0,), 5)
        self.check(given, now, (4, 5), state([4, 0], doors=[False, False]), (1,), 5)
        self.check(given, now, (5, 5), state([0, 0], doors=[True, False]), (0, 1), 10)

    def test_of_one_that_tips_and_moves_nothing(self):
        given = net(vessel(5, 9, outs=((0, 10),), holds=True, acts=(("turn", 0),)), spouts=(spout(0, 0, False),))
        self.check(given, state([0], doors=[False]), (6,), state([6], doors=[True]), (0,))
        self.check(given, state([6], doors=[True]), (0,), state([6], doors=[False]), (0,))

    def test_seen_with_the_next_tick(self):
        given = self.acting(("open", 0), ("shut", 1))
        self.assertEqual(rows(given, [(0, 0), (5, 0), (0, 0)]), [
            (state([0, 11], doors=[False, True]), (), 0),
            (state([0, 22], doors=[True, False]), (0,), 5),
            (state([0, 32], doors=[True, False]), (), 0),
        ])

    def test_doors_of_the_state_and_not_of_the_spouts(self):
        given = self.acting(("turn", 0))
        now = state([0, 0], doors=[True, False])
        self.check(given, now, (0, 0), state([0, 10], doors=[True, False]))
        self.check(given, now, (5, 0), state([0, 10], doors=[False, False]), (0,), 5)


class ManyTicks(KindCase):
    """Nets of every count of vessels and spouts, gone for many ticks."""

    def chance_runs(self, seed):
        chance = random.Random(seed)
        for vessel_count in range(1, 13):
            for spout_count in range(13):
                given = chance_net(chance, vessel_count, spout_count)
                yield given, [chance_pouring(chance, vessel_count) for _ in range(60)]
                yield given, [(0,) * vessel_count] * 60

    def test_what_came_in_is_held_coming_and_grounded(self):
        for given, pourings in self.chance_runs(8):
            now, came, grounded_ever = first_state(given), 0, 0
            for poured in pourings:
                flows = [flow for (_, flow, _), door in zip(given[1], now[2]) if door]
                came += sum(flows) + sum(poured)
                told = tick_behind(given, now, poured)
                self.assert_tick(given, told)
                now, _, grounded = told
                self.assertGreaterEqual(min(now[0] + now[1] + (grounded,)), 0)
                grounded_ever += grounded
                self.assertEqual(came, sum(now[0]) + sum(now[1]) + grounded_ever, given)

    def test_each_tick_is_the_plain_one(self):
        tips = 0
        for given, pourings in self.chance_runs(7):
            now = first_state(given)
            for poured in pourings:
                told = tick_behind(given, now, poured)
                self.assertEqual(told, plain_tick(given, now, poured), (given, now, poured))
                now = told[0]
                tips += len(told[1])
        self.assertGreater(tips, 10000)

    def test_told_again_the_same(self):
        runs = list(self.chance_runs(2))[:40]
        first = [rows(given, pourings) for given, pourings in runs]
        again = [rows(given, pourings) for given, pourings in reversed(runs)]
        self.assertEqual(first, again[::-1])


class SomewhatBeyond(TickCase):
    """The interface: going somewhat beyond a bound is no error."""

    def test_pouring_beyond_a_thousand(self):
        given = net(vessel(5, 9, spill=1), vessel(60, 60))
        self.assertEqual(tick_behind(given, state([0, 0]), (1005, 0)), (state([0, 0], [0, 996]), (0,), 9))

    def test_more_vessels_than_twelve(self):
        given = net(*[vessel(5, 9)] * 14)
        self.assertEqual(first_state(given), state([0] * 14))
        self.assertEqual(tick_behind(given, state([0] * 14), (5,) * 14), (state([0] * 14), tuple(range(14)), 70))

    def test_outs_without_a_part(self):
        for outs in ((), ((1, 0),)):
            held = net(vessel(5, 9, outs=outs, holds=True), vessel())
            lost = net(vessel(5, 9, outs=outs, holds=False), vessel())
            self.assertEqual(tick_behind(held, state([0, 0]), (7, 0)), (state([7, 0]), (0,), 0))
            self.assertEqual(tick_behind(lost, state([0, 0]), (7, 0)), (state([0, 0]), (0,), 7))


if __name__ == "__main__":
    unittest.main()
