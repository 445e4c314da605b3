"""Promise 21: what matters for a watched vessel, and the net trimmed to it, by a second telling and the plain ticks."""

import random
import unittest

from kinds import KindCase
from plain_run import plain_first
from plain_tick import plain_tick
from samples import WORDS, chance_net, clocks, net, small_net, spout, vessel
from tipwell.errors import NoVessel
from tipwell.layouts import bell_for, counter
from tipwell.matters import matters, trimmed
from tipwell.nets import is_net

FAR = 10 ** 60 - 1


def plain_steps(given, number):
    """Where outs, spill and acts of this vessel lead with one step."""
    outs, spill, acts = given[0][number][2], given[0][number][4], given[0][number][5]
    steps = {target for target, _ in outs} | {spill} | {given[1][spout_number][0] for _, spout_number in acts}
    return steps - {None}


def plain_matters(given, watched):
    """Each vessel from which the watched one is come to, gone forward from each; vessel 0 besides."""
    told = {0}
    for number in range(len(given[0])):
        come_to = {number}
        for _ in given[0]:
            come_to |= {step for there in come_to for step in plain_steps(given, there)}
        if watched in come_to:
            told.add(number)
    return tuple(sorted(told))


def plain_trimmed(given, watched):
    """The net written anew, thing by thing, in the words of the promise."""
    vessels, spouts = given
    kept = list(plain_matters(given, watched))
    kept_spouts = [number for number in range(len(spouts)) if spouts[number][0] in kept]
    told_vessels = []
    for number in kept:
        size, brim, outs, holds, spill, acts = vessels[number]
        told_vessels.append((
            size, brim,
            tuple((kept.index(target) if target in kept else None, parts) for target, parts in outs),
            holds, kept.index(spill) if spill in kept else None,
            tuple((word, kept_spouts.index(on)) for word, on in acts if on in kept_spouts),
        ))
    told_spouts = [(kept.index(spouts[number][0]), *spouts[number][1:]) for number in kept_spouts]
    return (tuple(told_vessels), tuple(told_spouts)), kept.index(watched)


def tips_along(given, number, row):
    """The ticks with which the vessel tips where the row is poured into vessel 0."""
    state, ticks = plain_first(given), []
    for tick, amount in enumerate(row):
        state, tipped, _ = plain_tick(given, state, (amount,) + (0,) * (len(given[0]) - 1))
        if number in tipped:
            ticks.append(tick)
    return ticks


def sparse_net(chance):
    """A net in which few things lead to few, so that some matter and some don't."""
    many, many_spouts = chance.randint(1, 12), chance.randint(0, 12)
    vessels = []
    for number in range(many):
        target = chance.choice((None, None, chance.randrange(many)))
        outs = ((target, chance.randint(1, 2)), (None, 1))[:chance.randint(1, 2)]
        spill = chance.choice([None] * 6 + list(range(number + 1, many))) if chance.random() < 0.4 else None
        acts = ((chance.choice(WORDS), chance.randrange(many_spouts)),) if many_spouts and chance.random() < 0.3 else ()
        size = chance.randint(1, 4)
        vessels.append((size, size + chance.randint(0, 2), outs, chance.random() < 0.5, spill, acts))
    spouts = [spout(chance.randrange(many), chance.randint(0, 2), chance.random() < 0.7) for _ in range(many_spouts)]
    return tuple(vessels), tuple(spouts)


def to(*targets, **parts):
    return vessel(2, 2, tuple((target, 1) for target in targets), **parts)


def chance_row(chance, many):
    most = chance.choice((0, 1, 3, 60, 1000))
    return [chance.randint(0, most) for _ in range(many)]


class MattersCase(KindCase):
    def assert_matters(self, given, watched, due):
        told = matters(given, watched)
        self.assertEqual(told, due)
        self.assert_numbers(told, len(due))

    def assert_trimmed(self, given, watched, due):
        told = trimmed(given, watched)
        # By their repr, in which a truth is no number.
        self.assertEqual(repr(told), repr(due))
        self.assertIs(type(told), tuple)
        self.assertIs(is_net(told[0]), True)


class Matters(MattersCase):
    def test_alone(self):
        self.assert_matters(net(vessel()), 0, (0,))
        self.assert_matters(net(to(0)), 0, (0,))

    def test_vessel_0_is_told_though_it_does_not_matter(self):
        self.assert_matters(clocks(2, 3, 4), 2, (0, 2))
        self.assert_matters(clocks(2, 3, 4), 0, (0,))

    def test_what_leads_to_vessel_0_matters_only_where_that_does(self):
        given = net(to(None), to(0), to(None))
        self.assert_matters(given, 2, (0, 2))
        self.assert_matters(given, 0, (0, 1))
        given = net(to(2), to(0), to(None))
        self.assert_matters(given, 2, (0, 1, 2))

    def test_an_out(self):
        self.assert_matters(net(to(None), to(2), to(None)), 2, (0, 1, 2))
        self.assert_matters(net(to(None), to(None, 2), to(None)), 2, (0, 1, 2))
        self.assert_matters(net(to(None), to(None, 3, 2), to(None), to(None)), 2, (0, 1, 2))
        self.assert_matters(net(to(None), to(3, 3, 3), to(None), to(None)), 2, (0, 2))

    def test_where_it_leads_itself_does_not_matter(self):
        self.assert_matters(net(to(None), to(2), to(None)), 1, (0, 1))
        given = net(to(None), to(None, spill=2, acts=(("open", 0),)), to(None), spouts=(spout(2),))
        self.assert_matters(given, 1, (0, 1))

    def test_a_spill(self):
        self.assert_matters(net(to(None), to(None, spill=3), to(None), to(None)), 3, (0, 1, 3))
        self.assert_matters(net(to(None), to(None, spill=3), to(None), to(None)), 2, (0, 2))

    def test_an_act_alone(self):
        for word in WORDS:
            given = net(
                to(None), to(None, acts=((word, 1),)), to(None), to(None),
                spouts=(spout(2, 1), spout(3, 0, False), spout(3, 1)),
            )
            self.assert_matters(given, 3, (0, 1, 3))
            self.assert_matters(given, 2, (0, 2))

    def test_one_of_several_acts(self):
        acts = (("open", 0), ("shut", 0), ("turn", 1))
        given = net(to(None), to(None, acts=acts), to(None), to(None), spouts=(spout(2), spout(3)))
        self.assert_matters(given, 3, (0, 1, 3))
        self.assert_matters(given, 2, (0, 1, 2))

    def test_an_act_on_a_spout_to_one_that_matters_by_an_out(self):
        given = net(to(None), to(None, acts=(("open", 0),)), to(3), to(None), spouts=(spout(2),))
        self.assert_matters(given, 3, (0, 1, 2, 3))

    def test_one_that_leads_to_itself(self):
        self.assert_matters(net(to(None), to(1), to(None)), 2, (0, 2))
        self.assert_matters(net(to(None), to(1), to(None)), 1, (0, 1))
        given = net(to(None), to(None, acts=(("turn", 0),)), to(None), spouts=(spout(1),))
        self.assert_matters(given, 2, (0, 2))

    def test_chains_forward_and_backward(self):
        many = 12
        forward = net(*[to(number + 1 if number < many - 1 else None) for number in range(many)])
        backward = net(*[to(number - 1 if number else None) for number in range(many)])
        spilling = net(*[to(None, spill=number + 1 if number < many - 1 else None) for number in range(many)])
        acting = net(
            *[to(None, acts=(("open", number + 1),) if number < many - 1 else ()) for number in range(many)],
            spouts=tuple(spout(number) for number in range(many)),
        )
        for watched in range(many):
            for given in (forward, spilling, acting):
                self.assert_matters(given, watched, tuple(range(watched + 1)))
            self.assert_matters(backward, watched, tuple(sorted({0} | set(range(watched, many)))))

    def test_rings(self):
        for many in range(2, 13):
            ring = net(*[to((number + 1) % many) for number in range(many)])
            for watched in range(many):
                self.assert_matters(ring, watched, tuple(range(many)))
        two_rings = net(to(None), to(2), to(3), to(1), to(5), to(4))
        self.assert_matters(two_rings, 2, (0, 1, 2, 3))
        self.assert_matters(two_rings, 4, (0, 4, 5))
        self.assert_matters(two_rings, 0, (0,))

    def test_bells_and_counters(self):
        self.assert_matters(bell_for([2, 5, 9]), 0, (0, 1, 2, 3))
        self.assert_matters(bell_for([2, 5, 9]), 2, (0, 2))
        self.assert_matters(counter([2, 3, 4]), 1, (0, 1))

    def test_each_vessel_of_nets_by_chance(self):
        seen = {"all": 0, "some": 0, "vessel 0 besides": 0}
        for seed in range(250):
            chance = random.Random(seed)
            given = sparse_net(chance) if seed % 5 else chance_net(chance, chance.randint(1, 12), chance.randint(0, 12))
            for watched in range(len(given[0])):
                due = plain_matters(given, watched)
                self.assert_matters(given, watched, due)
                seen["all" if len(due) == len(given[0]) else "some"] += 1
                seen["vessel 0 besides"] += due[0] == 0 and watched != 0 and len(due) == 2
        self.assertGreater(min(seen.values()), 100, seen)


class Trimmed(MattersCase):
    def test_nothing_is_left_out(self):
        for given in (net(vessel()), counter([2, 3]), bell_for([2, 5])):
            watched = len(given[0]) - 1 if given == counter([2, 3]) else 0
            self.assert_trimmed(given, watched, (given, watched))

    def test_by_hand(self):
        given = net(
            vessel(2, 9, ((3, 1), (2, 2), (0, 3)), True, 3, (("open", 1), ("turn", 3), ("shut", 0))),
            vessel(1, 1, ((0, 1),)),
            vessel(4, 5, ((1, 5), (None, 6)), False, 3, (("shut", 2), ("open", 3))),
            vessel(6, 7, ((1, 4), (3, 60)), True, 4, (("turn", 4), ("open", 1))),
            vessel(1, 1),
            spouts=(spout(1, 1), spout(3, 2, False), spout(4, 3), spout(0, 60, True), spout(3, 0)),
        )
        # For vessel 3: itself, 0, 2, and 1, which leads to 0.
        self.assert_trimmed(given, 3, (net(
            vessel(2, 9, ((3, 1), (2, 2), (0, 3)), True, 3, (("open", 1), ("turn", 2), ("shut", 0))),
            vessel(1, 1, ((0, 1),)),
            vessel(4, 5, ((1, 5), (None, 6)), False, 3, (("open", 2),)),
            vessel(6, 7, ((1, 4), (3, 60)), True, None, (("turn", 3), ("open", 1))),
            spouts=(spout(1, 1), spout(3, 2, False), spout(0, 60, True), spout(3, 0)),
        ), 3))

    def test_numbers_outs_spills_and_acts_anew(self):
        given = net(
            vessel(3, 4, ((1, 1), (2, 2)), True, 1, (("open", 0), ("shut", 3))),
            vessel(5, 5, spill=2),
            vessel(2, 2, ((4, 1), (1, 7), (0, 9)), False, 3, (("turn", 0), ("turn", 2), ("open", 1))),
            vessel(8, 9, ((4, 2), (3, 3)), True, 4, (("shut", 1),)),
            vessel(1, 200),
            spouts=(spout(1, 7), spout(4, 2, False), spout(3, 1), spout(0, 5)),
        )
        self.assert_matters(given, 4, (0, 1, 2, 3, 4))
        self.assert_trimmed(given, 3, (net(
            vessel(3, 4, ((1, 1), (2, 2)), True, 1, (("open", 0), ("shut", 2))),
            vessel(5, 5, spill=2),
            vessel(2, 2, ((None, 1), (1, 7), (0, 9)), False, 3, (("turn", 0), ("turn", 1))),
            vessel(8, 9, ((None, 2), (3, 3)), True, None, ()),
            spouts=(spout(1, 7), spout(3, 1), spout(0, 5)),
        ), 3))

    def test_what_is_left_out_between(self):
        given = net(
            vessel(2, 3, ((1, 1), (3, 2)), spill=1), vessel(4, 4, ((1, 1),)),
            vessel(5, 5), vessel(6, 6, ((2, 3), (0, 1))),
            spouts=(spout(1, 4), spout(3, 9, False), spout(2, 1), spout(0, 8)),
        )
        self.assert_trimmed(given, 3, (net(
            vessel(2, 3, ((None, 1), (1, 2)), spill=None), vessel(6, 6, ((None, 3), (0, 1))),
            spouts=(spout(1, 9, False), spout(0, 8)),
        ), 1))

    def test_vessel_0_keeps_its_spouts_though_it_does_not_matter(self):
        self.assert_trimmed(clocks(2, 3, 4), 2, (clocks(2, 4), 1))
        self.assert_trimmed(clocks(2, 3, 4), 0, (clocks(2), 0))

    def test_vessel_0_keeps_its_acts_on_its_own_spouts(self):
        given = net(
            vessel(2, 2, ((1, 1),), acts=(("turn", 0), ("turn", 1), ("shut", 1))), vessel(3, 3), vessel(4, 4),
            spouts=(spout(1), spout(0, 3), spout(2, 1)),
        )
        self.assert_trimmed(given, 2, (net(
            vessel(2, 2, ((None, 1),), acts=(("turn", 0), ("shut", 0))), vessel(4, 4),
            spouts=(spout(0, 3), spout(1, 1)),
        ), 1))

    def test_no_spouts_are_left(self):
        self.assert_trimmed(net(to(None), to(None), to(None), spouts=(spout(1),)), 2, (net(to(None), to(None)), 1))

    def test_each_vessel_of_nets_by_chance(self):
        for seed in range(250):
            chance = random.Random(seed)
            given = sparse_net(chance) if seed % 5 else chance_net(chance, chance.randint(1, 12), chance.randint(0, 12))
            for watched in range(len(given[0])):
                with self.subTest(seed=seed, watched=watched):
                    self.assert_trimmed(given, watched, plain_trimmed(given, watched))

    def test_the_watched_one_tips_at_the_same_ticks(self):
        seen = {"tips in a smaller net": 0, "never tips": 0}
        for seed in range(120):
            chance = random.Random(seed)
            make = chance.choice((sparse_net, sparse_net, lambda chance: small_net(chance, 6, 4)))
            given = make(chance)
            for watched in range(len(given[0])):
                smaller, number = trimmed(given, watched)
                for _ in range(2):
                    row = chance_row(chance, 40)
                    due = tips_along(given, watched, row)
                    self.assertEqual(tips_along(smaller, number, row), due)
                    seen["tips in a smaller net"] += bool(due) and len(smaller[0]) < len(given[0])
                    seen["never tips"] += not due
        self.assertGreater(min(seen.values()), 100, seen)

    def test_trimmed_again_it_stays(self):
        for seed in range(60):
            given = sparse_net(random.Random(seed))
            for watched in range(len(given[0])):
                smaller, number = trimmed(given, watched)
                self.assertEqual(trimmed(smaller, number), (smaller, number))


class Refusals(MattersCase):
    def test_no_vessel(self):
        for given in (net(vessel()), clocks(2, 3, 4), net(*[vessel()] * 12)):
            many = len(given[0])
            for number in (-1, -many, -many - 1, many, many + 1, 12, FAR, -FAR):
                self.assert_refused(NoVessel, matters, given, number)
                self.assert_refused(NoVessel, trimmed, given, number)

    def test_a_refusal_changes_nothing(self):
        given = clocks(2, 3, 4)
        self.assert_refused(NoVessel, trimmed, given, 3)
        self.assert_trimmed(given, 2, (clocks(2, 4), 1))


if __name__ == "__main__":
    unittest.main()
