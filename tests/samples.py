"""Nets for the tests: parts with plain values to change one by one, and many nets by chance from a seed."""

WORDS = ("open", "shut", "turn")


def vessel(size=5, brim=9, outs=((None, 1),), holds=False, spill=None, acts=()):
    return (size, brim, outs, holds, spill, acts)


def spout(target=0, flow=2, door=True):
    return (target, flow, door)


def net(*vessels, spouts=()):
    return (vessels, spouts)


def chance_vessel(chance, number, vessel_count, spout_count):
    size = chance.choice((1, 60, chance.randint(1, 60), chance.randint(1, 10)))
    brim = chance.choice((size, 200, chance.randint(size, 200)))
    targets = [None] + list(range(vessel_count))
    most_parts = chance.choice((3, 60))
    outs = tuple(
        (chance.choice(targets), chance.randint(1, most_parts)) for _ in range(chance.randint(1, 3))
    )
    spill = chance.choice([None] + list(range(number + 1, vessel_count)))
    acts = tuple(
        (chance.choice(WORDS), chance.randrange(spout_count)) for _ in range(chance.randint(0, 3))
    ) if spout_count else ()
    return (size, brim, outs, chance.random() < 0.5, spill, acts)


def chance_net(chance, vessel_count, spout_count):
    vessels = tuple(
        chance_vessel(chance, number, vessel_count, spout_count) for number in range(vessel_count)
    )
    spouts = tuple(
        (chance.randrange(vessel_count), chance.choice((0, 60, chance.randint(0, 60))), chance.random() < 0.6)
        for _ in range(spout_count)
    )
    return (vessels, spouts)


def chance_pouring(chance, vessel_count):
    """Nothing at all, a little, or amounts up to the most that may be poured."""
    most = chance.choice((0, 5, 60, 1000))
    return tuple(chance.choice((0, most, chance.randint(0, most))) for _ in range(vessel_count))
