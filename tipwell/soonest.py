"""The soonest pourings that tip a vessel: promise 19 of the document."""

from tipwell.nets import need_vessel
from tipwell.search import go_through, watch
from tipwell.ticks import first_state

MOST_STATES = 300


def soonest(net, vessel, most):
    """Tell the first of the shortest rows of pourings that tip the vessel, or states that show that none does."""
    need_vessel(net, vessel)
    row, states = go_through(
        first_state(net), lambda state, amount: watch(net, state, vessel, amount), most, MOST_STATES
    )
    if row is None:
        return "never", states
    return "tips", row
