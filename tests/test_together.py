"""Promises 22 to 24: nets side by side, one led on to another, and rhythms, by the plain ticks."""

import random
import unittest

from kinds import KindCase
from plain_round import plain_round, plain_tips, plain_walk
from plain_run import plain_first, plain_flow
from plain_tick import plain_tick
from samples import chance_net, chance_pouring, clocks, net, small_net, spout, vessel
from tipwell.errors import NoVessel, TooMany
from tipwell.layouts import bell_for, counter
from tipwell.nets import is_net
from tipwell.rounds import tick_of, tips_by
from tipwell.runs import Run
from tipwell.together import beside, led_on, rhythm

FAR = 10 ** 60 - 1


def plain_beside(given, other):
    """The net in the words of the promise, the other's numbers greater one by one."""
    vessels, spouts = list(given[0]), list(given[1])
    by, by_spouts = len(given[0]), len(given[1])
    for size, brim, outs, holds, spill, acts in other[0]:
        outs = tuple((None if target is None else by + target, parts) for target, parts in outs)
        spill = None if spill is None else by + spill
        acts = tuple((word, by_spouts + number) for word, number in acts)
        vessels.append((size, brim, outs, holds, spill, acts))
    for target, flow, door in other[1]:
        spouts.append((by + target, flow, door))
    return tuple(vessels), tuple(spouts)


def plain_led_on(given, number, other):
    vessels, spouts = plain_beside(given, other)
    size, brim, outs, holds, spill, acts = vessels[number]
    outs = tuple((len(given[0]), parts) if target is None else (target, parts) for target, parts in outs)
    return tuple(
        (size, brim, outs, holds, spill, acts) if place == number else there for place, there in enumerate(vessels)
    ), spouts


def got_by_ground_outs(there, has):
    """What the outs of this vessel to the ground get as it tips, where it had so much ahead of running over."""
    size, brim, outs = there[:3]
    has = min(has, brim)
    if has < size:
        return 0
    times = has // sum(parts for _, parts in outs)
    return sum(times * parts for target, parts in outs if target is None)


def plain_has(given, state, poured, number):
    """What the vessel has with the tick, ahead of running over."""
    held, coming, doors = state
    flow = sum(there[1] for there, door in zip(given[1], doors) if door and there[0] == number)
    return held[number] + coming[number] + flow + poured[number]


def two_nets(chance, make=None):
    """Two nets that go together: at most twelve vessels and twelve spouts in all."""
    many, many_spouts = chance.randint(1, 11), chance.randint(0, 12)
    other_many, other_spouts = chance.randint(1, 12 - many), chance.randint(0, 12 - many_spouts)
    make = make or chance.choice((chance_net, small_net))
    return make(chance, many, many_spouts), make(chance, other_many, other_spouts)


def of_counts(many, many_spouts):
    return net(*[vessel()] * many, spouts=(spout(),) * many_spouts)


class TogetherCase(KindCase):
    def assert_net(self, told, due):
        # By their repr, in which a truth is no number and a list no tuple.
        self.assertEqual(repr(told), repr(due))
        self.assertIs(is_net(told), True)

    def assert_part(self, state, at, at_spouts, part_state):
        """The state has the part's state in it, from these numbers on."""
        held, coming, doors = state
        many, many_spouts = len(part_state[0]), len(part_state[2])
        self.assertEqual(
            (held[at:at + many], coming[at:at + many], doors[at_spouts:at_spouts + many_spouts]), part_state
        )


class Beside(TogetherCase):
    def test_by_hand(self):
        given = net(
            vessel(2, 3, ((1, 1), (None, 2)), True, 1, (("open", 1),)), vessel(4, 5, ((0, 6),)),
            spouts=(spout(0, 1, False), spout(1, 0)),
        )
        other = net(
            vessel(7, 8, ((0, 1), (2, 2), (None, 3)), False, 2, (("shut", 0), ("turn", 2))),
            vessel(9, 9, ((1, 4),), True),
            vessel(1, 200), spouts=(spout(2, 60), spout(0, 2, False), spout(1, 3)),
        )
        self.assert_net(beside(given, other), net(
            vessel(2, 3, ((1, 1), (None, 2)), True, 1, (("open", 1),)), vessel(4, 5, ((0, 6),)),
            vessel(7, 8, ((2, 1), (4, 2), (None, 3)), False, 4, (("shut", 2), ("turn", 4))),
            vessel(9, 9, ((3, 4),), True),
            vessel(1, 200), spouts=(spout(0, 1, False), spout(1, 0), spout(4, 60), spout(2, 2, False), spout(3, 3)),
        ))

    def test_without_spouts(self):
        self.assert_net(beside(net(vessel(1, 1)), net(vessel(2, 2))), net(vessel(1, 1), vessel(2, 2)))
        self.assert_net(beside(net(vessel()), clocks(2)), net(vessel(), vessel(2, 2), spouts=(spout(1, 1),)))
        self.assert_net(beside(clocks(2), net(vessel())), net(vessel(2, 2), vessel(), spouts=(spout(0, 1),)))

    def test_a_net_beside_itself(self):
        given = counter([2, 3])
        self.assert_net(beside(given, given), plain_beside(given, given))

    def test_nets_of_all_counts(self):
        for many in range(1, 12):
            for other_many in range(1, 13 - many):
                chance = random.Random(many * 100 + other_many)
                many_spouts = chance.randint(0, 12)
                other_spouts = chance.choice((0, 12 - many_spouts, chance.randint(0, 12 - many_spouts)))
                given, other = chance_net(chance, many, many_spouts), chance_net(chance, other_many, other_spouts)
                self.assert_net(beside(given, other), plain_beside(given, other))

    def test_twelve_in_all_and_thirteen(self):
        for many in range(0, 14):
            for place, other_place in ((many, 12 - many), (many, 13 - many)):
                if 1 <= place <= 12 and 1 <= other_place <= 12:
                    self.check_counts((place, 1), (other_place, 0))
                    self.check_counts((place, 12), (other_place, 0))
                if 0 <= place <= 12 and 0 <= other_place <= 12:
                    self.check_counts((1, place), (1, other_place))
                    self.check_counts((6, place), (6, other_place))

    def check_counts(self, counts, other_counts):
        given, other = of_counts(*counts), of_counts(*other_counts)
        if counts[0] + other_counts[0] > 12 or counts[1] + other_counts[1] > 12:
            self.assert_refused(TooMany, beside, given, other)
        else:
            self.assert_net(beside(given, other), plain_beside(given, other))

    def test_far_too_many(self):
        self.assert_refused(TooMany, beside, of_counts(12, 12), of_counts(12, 12))
        self.assert_refused(TooMany, beside, of_counts(12, 0), of_counts(1, 0))
        self.assert_refused(TooMany, beside, of_counts(1, 12), of_counts(1, 1))

    def test_both_parts_act_as_each_alone(self):
        for seed in range(80):
            chance = random.Random(seed)
            given, other = two_nets(chance)
            both = beside(given, other)
            many = len(given[0])
            state, one, two = plain_first(both), plain_first(given), plain_first(other)
            for _ in range(30):
                poured, more = chance_pouring(chance, many), chance_pouring(chance, len(other[0]))
                self.assertEqual(plain_flow(both, state), plain_flow(given, one) + plain_flow(other, two))
                state, tipped, lost = plain_tick(both, state, poured + more)
                one, one_tipped, one_lost = plain_tick(given, one, poured)
                two, two_tipped, two_lost = plain_tick(other, two, more)
                self.assertEqual(tipped, one_tipped + tuple(number + many for number in two_tipped))
                self.assertEqual(lost, one_lost + two_lost)
                self.assert_part(state, 0, 0, one)
                self.assert_part(state, many, len(given[1]), two)

    def test_runs_of_both(self):
        for seed in range(40):
            chance = random.Random(seed)
            given, other = two_nets(chance)
            many = len(given[0])
            run, one, two = Run(beside(given, other)), Run(given), Run(other)
            for _ in range(10):
                for number, amount in enumerate(chance_pouring(chance, many)):
                    run.pour(number, amount)
                    one.pour(number, amount)
                for number, amount in enumerate(chance_pouring(chance, len(other[0]))):
                    run.pour(many + number, amount)
                    two.pour(number, amount)
                ticks = chance.randint(0, 9)
                for each in (run, one, two):
                    each.go(ticks)
            self.assertEqual(run.came(), one.came() + two.came())
            self.assertEqual(run.grounded(), one.grounded() + two.grounded())
            tips = [one.tips(number) for number in range(many)] + [two.tips(number) for number in range(len(other[0]))]
            self.assertEqual([run.tips(number) for number in range(len(tips))], tips)


class LedOn(TogetherCase):
    def test_by_hand(self):
        given = net(
            vessel(2, 3, ((None, 1), (1, 2), (None, 3)), True, None, (("open", 0),)), vessel(4, 5, ((None, 6),)),
            spouts=(spout(0, 1, False),),
        )
        other = net(vessel(7, 8, ((None, 1), (0, 2)), spill=1), vessel(1, 1, ((0, 1),), acts=(("turn", 0),)),
                    spouts=(spout(1, 9),))
        self.assert_net(led_on(given, 0, other), net(
            vessel(2, 3, ((2, 1), (1, 2), (2, 3)), True, None, (("open", 0),)), vessel(4, 5, ((None, 6),)),
            vessel(7, 8, ((None, 1), (2, 2)), spill=3), vessel(1, 1, ((2, 1),), acts=(("turn", 1),)),
            spouts=(spout(0, 1, False), spout(3, 9)),
        ))
        self.assert_net(led_on(given, 1, other), net(
            vessel(2, 3, ((None, 1), (1, 2), (None, 3)), True, None, (("open", 0),)), vessel(4, 5, ((2, 6),)),
            vessel(7, 8, ((None, 1), (2, 2)), spill=3), vessel(1, 1, ((2, 1),), acts=(("turn", 1),)),
            spouts=(spout(0, 1, False), spout(3, 9)),
        ))

    def test_no_out_to_the_ground(self):
        given, other = net(vessel(2, 2, ((0, 1), (1, 1)), spill=None), vessel(3, 3, ((0, 1),))), clocks(4)
        for number in (0, 1):
            self.assert_net(led_on(given, number, other), beside(given, other))

    def test_the_spill_to_the_ground_stays(self):
        told = led_on(net(vessel(2, 3, ((None, 2),), spill=None)), 0, net(vessel(5, 5)))
        self.assert_net(told, net(vessel(2, 3, ((1, 2),), spill=None), vessel(5, 5)))
        # 10 poured: 7 run over to the ground, 2 go to the other's vessel 0, 1 is lost.
        self.assertEqual(plain_tick(told, plain_first(told), (10, 0)), (((0, 0), (0, 2), ()), (0,), 8))

    def test_each_vessel_of_nets_by_chance(self):
        seen = {0: 0, 1: 0, 2: 0}
        for seed in range(150):
            chance = random.Random(seed)
            given, other = two_nets(chance)
            for number, there in enumerate(given[0]):
                self.assert_net(led_on(given, number, other), plain_led_on(given, number, other))
                seen[min(2, sum(target is None for target, _ in there[2]))] += 1
        self.assertGreater(min(seen.values()), 20, seen)

    def test_the_other_is_poured_into_by_these_outs(self):
        something_led = 0
        for seed in range(100):
            chance = random.Random(seed)
            given, other = two_nets(chance, small_net)
            number = chance.randrange(len(given[0]))
            something_led += self.check_led(chance, given, number, other)
        self.assertGreater(something_led, 30)

    def check_led(self, chance, given, number, other):
        """Both tick by tick; the other's own run gets what the outs got with the tick ahead."""
        together, many = led_on(given, number, other), len(given[0])
        state, one, two = plain_first(together), plain_first(given), plain_first(other)
        led, all_led = 0, 0
        for _ in range(30):
            poured, nothing = chance_pouring(chance, many), (0,) * len(other[0])
            has = plain_has(given, one, poured, number)
            state, tipped, _ = plain_tick(together, state, poured + nothing)
            one, one_tipped, _ = plain_tick(given, one, poured)
            two, two_tipped, _ = plain_tick(other, two, (led,) + nothing[1:])
            led = got_by_ground_outs(given[0][number], has)
            all_led += led
            self.assertEqual(tipped, one_tipped + tuple(number + many for number in two_tipped))
            # What is on its way is coming in the one, and not poured yet in the other.
            coming = (two[1][0] + led,) + two[1][1:]
            self.assert_part(state, many, len(given[1]), (two[0], coming, two[2]))
            self.assert_part(state, 0, 0, one)
        return all_led > 0

    def test_no_vessel_ahead_of_too_many(self):
        small, great = clocks(2, 3), of_counts(12, 12)
        for given, other in ((small, small), (small, great), (great, small), (great, great)):
            many = len(given[0])
            for number in (-1, -many, many, many + 1, FAR, -FAR):
                self.assert_refused(NoVessel, led_on, given, number, other)

    def test_too_many(self):
        for given, other in (
            (of_counts(12, 0), of_counts(1, 0)), (of_counts(1, 0), of_counts(12, 0)),
            (of_counts(7, 1), of_counts(6, 1)), (of_counts(1, 12), of_counts(1, 1)),
            (of_counts(1, 1), of_counts(1, 12)), (of_counts(2, 7), of_counts(2, 6)),
        ):
            for number in range(len(given[0])):
                self.assert_refused(TooMany, led_on, given, number, other)

    def test_twelve_in_all(self):
        for counts, other_counts in (((11, 0), (1, 12)), ((1, 12), (11, 0)), ((6, 6), (6, 6)), ((1, 0), (11, 12))):
            given, other = of_counts(*counts), of_counts(*other_counts)
            for number in range(len(given[0])):
                self.assert_net(led_on(given, number, other), plain_led_on(given, number, other))

    def test_a_refusal_changes_nothing(self):
        given = counter([2, 3])
        self.assert_refused(NoVessel, led_on, given, 2, given)
        self.assert_refused(TooMany, led_on, given, 0, of_counts(12, 0))
        self.assertEqual(given, counter([2, 3]))


class Rhythm(TogetherCase):
    def assert_beats(self, ticks, length, lengths=12):
        kept = list(ticks)
        given = rhythm(ticks, length)
        self.assertEqual(ticks, kept)
        self.assertIs(is_net(given), True)
        many = lengths * length
        states, tipped = plain_walk(given, many)
        due = sorted(tick + length * more for tick in ticks for more in range(lengths))
        self.assertEqual(plain_tips(tipped, 0), [tick for tick in due if tick < many])
        # The state comes again, so what was seen till then goes on for ever.
        ahead, round_length = plain_round(states)
        self.assertEqual(round_length % length, 0)
        self.assertLessEqual(ahead + round_length + length, many)
        return given

    def test_every_single_tick_of_every_length(self):
        for length in range(1, 61):
            for tick in sorted({length, length + 1, length + length // 2, 2 * length - 2, 2 * length - 1}):
                if length <= tick < 2 * length:
                    self.assert_beats([tick], length, 6)

    def test_every_row_of_ticks_of_short_lengths(self):
        for length in range(1, 7):
            for sign in range(1, 2 ** length):
                ticks = [length + place for place in range(length) if sign >> place & 1]
                if len(ticks) <= 5:
                    self.assert_beats(ticks, length)

    def test_first_last_close_together_and_spread(self):
        for length in range(5, 61):
            self.assert_beats(list(range(length, length + 5)), length, 5)
            self.assert_beats(list(range(2 * length - 5, 2 * length)), length, 5)
            self.assert_beats(sorted({length, 2 * length - 1}), length, 5)
            self.assert_beats([length + length * place // 5 for place in range(5)], length, 5)

    def test_all_ticks_of_the_shortest(self):
        self.assert_beats([1], 1)
        self.assert_beats([2], 2)
        self.assert_beats([3], 2)
        self.assert_beats([2, 3], 2)
        self.assert_beats([60], 60)
        self.assert_beats([119], 60)
        self.assert_beats([60, 119], 60)
        self.assert_beats([60, 61, 90, 118, 119], 60)

    def test_by_chance(self):
        chance = random.Random(24)
        for _ in range(100):
            length = chance.randint(1, 60)
            ticks = sorted(chance.sample(range(length, 2 * length), chance.randint(1, min(5, length))))
            self.assert_beats(ticks, length, 8)

    def test_for_ever(self):
        chance = random.Random(25)
        for _ in range(20):
            length = chance.randint(5, 60)
            ticks = sorted(chance.sample(range(length, 2 * length), 5))
            given = rhythm(ticks, length)
            rounds, place = chance.randint(0, 10 ** 55), chance.randrange(5)
            self.assertEqual(tick_of(given, 0, 5 * rounds + place + 1), ticks[place] + rounds * length)
            self.assertEqual(tips_by(given, 0, length * (rounds + 1)), 5 * rounds)

    def test_told_anew(self):
        ticks = [3, 4]
        given = rhythm(ticks, 3)
        ticks.clear()
        self.assertEqual(given, rhythm([3, 4], 3))

    def test_somewhat_beyond(self):
        for ticks, length in (([], 3), ([61], 61), (list(range(8, 16)), 8), ([2], 3), ([9], 3), ([0], 0)):
            rhythm(ticks, length)


class Kept(TogetherCase):
    def test_what_is_handed_in_stays(self):
        given, other = bell_for([2, 5]), counter([3, 4])
        beside(given, other)
        led_on(given, 0, other)
        self.assertEqual((given, other), (bell_for([2, 5]), counter([3, 4])))


if __name__ == "__main__":
    unittest.main()
