"""What goes through a net, nothing being poured: promise 20 of the document."""

from tipwell.rounds import go_round, sum_by
from tipwell.ticks import came_in, first_state, pouring


def round_sums(net):
    """Tell what comes in and what goes to the ground in a round, and how often each vessel tips."""
    ahead, told = go_round(net)
    tipped_in_round = [tipped for state, tipped, grounded in told[ahead:]]
    tips = [sum([tipped.count(number) for tipped in tipped_in_round]) for number in range(len(net[0]))]
    return sum(came_with_each(net, told)[ahead:]), sum(grounded_with_each(told)[ahead:]), tuple(tips)


def came_by(net, ticks):
    """Tell how much comes in within so many ticks."""
    ahead, told = go_round(net)
    return sum_by(came_with_each(net, told), ahead, ticks)


def grounded_by(net, ticks):
    """Tell how much goes to the ground within so many ticks."""
    ahead, told = go_round(net)
    return sum_by(grounded_with_each(told), ahead, ticks)


def came_with_each(net, told):
    """List how much comes in with each tick."""
    # What comes in hangs on the state ahead of the tick, and each tick tells the one behind it.
    ahead_of_each = [first_state(net)] + [state for state, tipped, grounded in told[:-1]]
    return [came_in(net, state, pouring(net, 0)) for state in ahead_of_each]


def grounded_with_each(told):
    """List how much goes to the ground with each tick."""
    return [grounded for state, tipped, grounded in told]
