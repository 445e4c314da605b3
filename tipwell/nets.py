"""What a net is, and which vessels it has: promise 4 of the document."""

from tipwell.errors import NoVessel

MOST_VESSELS = 12
MOST_SPOUTS = 12
MOST_SIZE = 60
MOST_BRIM = 200
MOST_OUTS = 3
MOST_PARTS = 60
MOST_ACTS = 3
MOST_FLOW = 60
ACT_WORDS = ("open", "shut", "turn")


def is_net(thing):
    """Tell of anything whether it is a net."""
    if not is_tuple(thing, 2, 2):
        return False
    vessels, spouts = thing
    if not is_tuple(vessels, 1, MOST_VESSELS) or not is_tuple(spouts, 0, MOST_SPOUTS):
        return False
    for number, vessel in enumerate(vessels):
        if not is_vessel(vessel, number, len(vessels), len(spouts)):
            return False
    return all([is_spout(spout, len(vessels)) for spout in spouts])


def is_vessel(thing, number, vessel_count, spout_count):
    """Tell whether the thing can be the vessel of this number in a net of so many vessels and spouts."""
    if not is_tuple(thing, 6, 6):
        return False
    size, brim, outs, holds, spill, acts = thing
    # The brim is looked at only behind the size, as its bound rests on it.
    if not is_whole(size, 1, MOST_SIZE) or not is_whole(brim, size, MOST_BRIM):
        return False
    if not is_tuple(outs, 1, MOST_OUTS) or not is_tuple(acts, 0, MOST_ACTS):
        return False
    return (
        all([is_out(out, vessel_count) for out in outs])
        and isinstance(holds, bool)
        and (spill is None or is_whole(spill, number + 1, vessel_count - 1))
        and all([is_act(act, spout_count) for act in acts])
    )


def is_out(thing, vessel_count):
    """Tell whether the thing is a pair of a target, perhaps the ground, and parts."""
    if not is_tuple(thing, 2, 2):
        return False
    target, parts = thing
    return (target is None or is_whole(target, 0, vessel_count - 1)) and is_whole(parts, 1, MOST_PARTS)


def is_act(thing, spout_count):
    """Tell whether the thing is a pair of a word and the number of a spout."""
    if not is_tuple(thing, 2, 2):
        return False
    word, spout = thing
    return word in ACT_WORDS and is_whole(spout, 0, spout_count - 1)


def is_spout(thing, vessel_count):
    """Tell whether the thing is a spout of a net of so many vessels."""
    if not is_tuple(thing, 3, 3):
        return False
    target, flow, door = thing
    return is_whole(target, 0, vessel_count - 1) and is_whole(flow, 0, MOST_FLOW) and isinstance(door, bool)


def need_vessel(net, number):
    """Refuse the number of a vessel that the net lacks."""
    vessels, spouts = net
    if not is_whole(number, 0, len(vessels) - 1):
        raise NoVessel("the net has no such vessel")


def with_vessel(net, number, vessel):
    """Tell the net with this vessel in the place of the one of that number."""
    vessels, spouts = net
    return vessels[:number] + (vessel,) + vessels[number + 1:], spouts


def is_tuple(thing, least, most):
    """Tell whether the thing is a tuple of least to most things."""
    return isinstance(thing, tuple) and least <= len(thing) <= most


def is_whole(thing, least, most):
    """Tell whether the thing is a whole number from least to most."""
    # To Python a truth is an int as well; to the document it is none.
    return isinstance(thing, int) and not isinstance(thing, bool) and least <= thing <= most
