"""Nets side by side, one led on to another, and rhythms: promises 22 to 24 of the document."""

from tipwell.errors import TooMany
from tipwell.layouts import one_on
from tipwell.nets import MOST_SPOUTS, MOST_VESSELS, need_vessel, with_vessel
from tipwell.renumber import renumbered


def beside(net, other):
    """Tell the net of the vessels and spouts of both, the other's numbered behind the one's."""
    vessels, spouts = net
    other_vessels, other_spouts = other
    many, many_spouts = len(vessels), len(spouts)
    if many + len(other_vessels) > MOST_VESSELS or many_spouts + len(other_spouts) > MOST_SPOUTS:
        raise TooMany("there are more vessels or spouts than a net has")
    moved_vessels, moved_spouts = renumbered(
        other,
        {number: number + many for number in range(len(other_vessels))},
        {number: number + many_spouts for number in range(len(other_spouts))},
    )
    return vessels + moved_vessels, spouts + moved_spouts


def led_on(net, vessel, other):
    """Tell the nets side by side, the outs of the vessel to the ground led to the other's vessel 0."""
    need_vessel(net, vessel)
    size, brim, outs, holds, spill, acts = net[0][vessel]
    behind = len(net[0])
    led_outs = [(behind if target is None else target, parts) for target, parts in outs]
    return with_vessel(beside(net, other), vessel, (size, brim, tuple(led_outs), holds, spill, acts))


def rhythm(ticks, length):
    """Lay out a net whose vessel 0 tips at just these ticks and any number of lengths more."""
    vessels, spouts = [(1, 1, ((None, 1),), False, None, ())], []
    for tick in ticks:
        late = tick - length
        # A beat tips first with the tick ahead of the told one, as what it sends comes a tick later.
        vessels.append((length, length, one_on(0, length), False, None, ()))
        spouts.append((len(vessels) - 1, 1, late < 1))
        if late >= 1:
            # The beat's spout is shut till this vessel has counted the ticks by which the beat begins late.
            acts = (("open", len(spouts) - 1), ("shut", len(spouts)))
            vessels.append((late, late, ((None, 1),), False, None, acts))
            spouts.append((len(vessels) - 1, 1, True))
    return tuple(vessels), tuple(spouts)
