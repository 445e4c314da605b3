"""What a stuck vessel changes: promise 16 of the document."""

from tipwell.errors import TooLong
from tipwell.nets import need_vessel, with_vessel
from tipwell.rounds import LAST_TICK
from tipwell.ticks import first_state, pouring, tick_behind


def stuck(net, vessel):
    """Tell the first tick and the least other vessel that tips in just one of the net and the net with it stuck."""
    need_vessel(net, vessel)
    other, nothing = stuck_net(net, vessel), pouring(net, 0)
    state = other_state = first_state(net)
    seen = {}
    for tick in range(LAST_TICK + 1):
        pair = (state, other_state)
        if pair in seen:
            return None
        seen[pair] = True
        state, tipped, grounded = tick_behind(net, state, nothing)
        other_state, other_tipped, grounded = tick_behind(other, other_state, nothing)
        changed = [
            number for number in range(len(nothing))
            if number != vessel and (number in tipped) != (number in other_tipped)
        ]
        if changed:
            return tick, changed[0]
    raise TooLong("neither a change nor a pair of states again in time")


def stuck_net(net, vessel):
    """Tell the net with the vessel stuck."""
    size, brim, outs, holds, spill, acts = net[0][vessel]
    # It never has its size where that is beyond its brim, as what is beyond the brim goes over first.
    return with_vessel(net, vessel, (brim + 1, brim, outs, holds, spill, acts))
