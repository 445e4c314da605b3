"""Which vessels matter for a watched one, and the net trimmed to them: promise 21 of the document."""

from tipwell.nets import need_vessel
from tipwell.renumber import renumbered


def matters(net, watched):
    """Tell the numbers of the vessels that matter for the watched one, vessel 0 besides."""
    need_vessel(net, watched)
    vessels, spouts = net
    found, place = [watched], 0
    while place < len(found):
        for number, vessel in enumerate(vessels):
            if number not in found and found[place] in leads_to(vessel, spouts):
                found.append(number)
        place += 1
    # Vessel 0 is told in any case, but what leads to it matters only where vessel 0 does.
    return tuple(sorted(set(found + [0])))


def leads_to(vessel, spouts):
    """List where the outs, the spill and the acts of the vessel lead, an act to the target of its spout."""
    size, brim, outs, holds, spill, acts = vessel
    return [target for target, parts in outs] + [spill] + [spouts[spout][0] for word, spout in acts]


def trimmed(net, watched):
    """Tell the net of what matters for the watched vessel alone, and that one's number in it."""
    kept = matters(net, watched)
    vessels, spouts = net
    new_vessels = counted(kept)
    new_spouts = counted([number for number, spout in enumerate(spouts) if spout[0] in kept])
    return renumbered(net, new_vessels, new_spouts), new_vessels[watched]


def counted(kept):
    """Tell for each kept number its place among them."""
    return {number: place for place, number in enumerate(kept)}
