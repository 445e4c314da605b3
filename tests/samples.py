"""Nets for the tests: parts with plain values to change one by one, and many nets by chance from a seed."""

import random

WORDS = ("open", "shut", "turn")


def vessel(size=5, brim=9, outs=((None, 1),), holds=False, spill=None, acts=()):
    return (size, brim, outs, holds, spill, acts)


def spout(target=0, flow=2, door=True):
    return (target, flow, door)


def net(*vessels, spouts=()):
    return (vessels, spouts)


def chance_vessel(chance, number, vessel_count, spout_count):
    size = chance.choice((1, 60, chance.randint(1, 60), chance.randint(1, 10)))
    brim = chance.choice((size, 200, chance.randint(size, 200)))
    targets = [None] + list(range(vessel_count))
    most_parts = chance.choice((3, 60))
    outs = tuple(
        (chance.choice(targets), chance.randint(1, most_parts)) for _ in range(chance.randint(1, 3))
    )
    spill = chance.choice([None] + list(range(number + 1, vessel_count)))
    acts = tuple(
        (chance.choice(WORDS), chance.randrange(spout_count)) for _ in range(chance.randint(0, 3))
    ) if spout_count else ()
    return (size, brim, outs, chance.random() < 0.5, spill, acts)


def chance_net(chance, vessel_count, spout_count):
    vessels = tuple(
        chance_vessel(chance, number, vessel_count, spout_count) for number in range(vessel_count)
    )
    spouts = tuple(
        (chance.randrange(vessel_count), chance.choice((0, 60, chance.randint(0, 60))), chance.random() < 0.6)
        for _ in range(spout_count)
    )
    return (vessels, spouts)


def small_net(chance, vessel_count, spout_count):
    """A net of small numbers, so that few states come up."""
    vessels = []
    for number in range(vessel_count):
        size = chance.randint(1, 4)
        targets = [None, None] + list(range(vessel_count))
        outs = tuple((chance.choice(targets), chance.randint(1, 2)) for _ in range(chance.randint(1, 2)))
        spill = chance.choice([None] + list(range(number + 1, vessel_count)))
        acts = ((chance.choice(WORDS), chance.randrange(spout_count)),) if spout_count and chance.random() < 0.5 else ()
        vessels.append((size, size + chance.randint(0, 2), outs, chance.random() < 0.5, spill, acts))
    spouts = tuple(
        (chance.randrange(vessel_count), chance.randint(0, 2), chance.random() < 0.6) for _ in range(spout_count)
    )
    return (tuple(vessels), spouts)


def chance_given(seed, most_vessels=12, most_spouts=12):
    """The chance of this seed, and a net by it, of any numbers or of small ones."""
    chance = random.Random(seed)
    make = chance.choice((chance_net, small_net))
    return chance, make(chance, chance.randint(1, most_vessels), chance.randint(0, most_spouts))


def clocks(*sizes, more=(), more_spouts=()):
    """Vessels side by side, each with a spout of its own that drips: all come again at the least common number."""
    vessels = [vessel(size, size) for size in sizes] + list(more)
    spouts = [spout(number, 1) for number in range(len(sizes))] + list(more_spouts)
    return (tuple(vessels), tuple(spouts))


def settling(sizes, ticks):
    """The same with a vessel besides that fills in so many ticks, tips once, and shuts its spout."""
    number = len(sizes)
    return clocks(
        *sizes, more=(vessel(ticks, ticks, acts=(("shut", number),)),), more_spouts=(spout(number, 1),)
    )


# A vessel that goes round in 125 ticks: it tips from 60 on, but nothing leaves it ahead of 125.
SLOW = vessel(60, 200, ((None, 60), (None, 60), (None, 5)), holds=True)
# Nets whose states come again first at the tick 2000, and at the tick 2001.
SLOW_2000 = net(SLOW, vessel(16, 16), spouts=(spout(0, 1), spout(1, 1)))
SETTLING_2000 = settling((54, 37), 2)
CLOCK_2001 = clocks(3, 23, 29)
SETTLING_2001 = settling((54, 37), 3)


def hand_counter(size, next_size):
    """Vessel 1 counts the tips of vessel 0, which is filled by hand alone.

    By pourings of at most 1 or more, (size + 1) * next_size states come up: vessel 0 is empty where 1 is coming.
    """
    return net(vessel(size, size, ((1, 1), (None, size - 1))), vessel(next_size, next_size))


def with_start(given):
    """The net with a vessel and a spout more, which make its first state one that never comes again."""
    vessels, spouts = given
    starter = vessel(1, 1, acts=(("shut", len(spouts)),))
    return (vessels + (starter,), spouts + (spout(len(vessels), 1),))


def with_idle(given):
    """The net with a vessel more, that nothing comes to."""
    return (given[0] + (vessel(),), given[1])


def chance_pouring(chance, vessel_count):
    """Nothing at all, a little, or amounts up to the most that may be poured."""
    most = chance.choice((0, 5, 60, 1000))
    return tuple(chance.choice((0, most, chance.randint(0, most))) for _ in range(vessel_count))
