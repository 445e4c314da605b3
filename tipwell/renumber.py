"""Nets whose vessels and spouts get new numbers, for trimmed nets and for nets put together."""


def renumbered(net, new_vessels, new_spouts):
    """Tell the vessels and the spouts that have a new number, and numbered so, in the order of these dicts.

    What leads to a vessel without a new number leads to the ground, and an act on such a spout is left out.
    """
    vessels, spouts = net
    told_vessels = [renumbered_vessel(vessels[number], new_vessels, new_spouts) for number in new_vessels]
    told_spouts = []
    for number in new_spouts:
        target, flow, door = spouts[number]
        told_spouts.append((new_vessels[target], flow, door))
    return tuple(told_vessels), tuple(told_spouts)


def renumbered_vessel(vessel, new_vessels, new_spouts):
    """Tell the vessel with the new numbers in its outs, its spill and its acts."""
    size, brim, outs, holds, spill, acts = vessel
    # The ground has no new number and stays the ground, as what is left out becomes it.
    told_outs = [(new_vessels.get(target), parts) for target, parts in outs]
    told_acts = [(word, new_spouts[spout]) for word, spout in acts if spout in new_spouts]
    return size, brim, tuple(told_outs), holds, new_vessels.get(spill), tuple(told_acts)
