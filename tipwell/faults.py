"""Which stuck vessel was seen, and where to watch for it: promise 25 of the document."""

from tipwell.moments import first_moment, moment_gone
from tipwell.nets import need_vessel
from tipwell.stuck import stuck_net


def cases(net, watched, ticks, seen):
    """List the cases for which just these tips of the watched vessel are seen within so many ticks."""
    need_vessel(net, watched)
    told = [None] + list(range(len(net[0])))
    return [case for case in told if tips_of(watched, tipped_in_case(net, case, ticks)) == seen]


def best_watch(net, ticks):
    """Tell the vessel whose tips within so many ticks tell most cases apart, and how many unlike ones there are."""
    numbers = list(range(len(net[0])))
    all_tipped = [tipped_in_case(net, case, ticks) for case in [None] + numbers]
    unlike = [len({tuple(tips_of(number, tipped)) for tipped in all_tipped}) for number in numbers]
    # The first place of several is the least vessel.
    return unlike.index(max(unlike)), max(unlike)


def tipped_in_case(net, case, ticks):
    """Tell the pairs of tick and vessel of all tips within so many ticks, with the vessel of the case stuck."""
    going = net if case is None else stuck_net(net, case)
    moment, tipped = moment_gone(going, first_moment(going), ticks)
    return tipped


def tips_of(vessel, tipped):
    """List the ticks with which the vessel tips."""
    return [tick for tick, number in tipped if number == vessel]
