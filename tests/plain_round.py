"""A second telling of promises 10, 11 and 20 by looking through the plain ticks, nothing being poured."""

from plain_run import plain_first, plain_flow
from plain_tick import plain_tick


def plain_through(net, many, stuck=None):
    """The states at the ticks from 0 to many; of each of so many ticks who tips, what came and what is grounded."""
    nothing = (0,) * len(net[0])
    states, tipped, came, grounded = [plain_first(net)], [], [], []
    for _ in range(many):
        came.append(plain_flow(net, states[-1]))
        behind, numbers, lost = plain_tick(net, states[-1], nothing, stuck)
        states.append(behind)
        tipped.append(numbers)
        grounded.append(lost)
    return states, tipped, came, grounded


def plain_walk(net, many):
    """The states at the ticks from 0 to many, and the vessels that tip with each of so many ticks."""
    return plain_through(net, many)[:2]


def plain_round(states):
    """The least tick whose state comes again within these, and how many ticks later it does first; or None."""
    for ahead, state in enumerate(states):
        for later in range(ahead + 1, len(states)):
            if states[later] == state:
                return ahead, later - ahead
    return None


def plain_tips(tipped, vessel):
    return [tick for tick, numbers in enumerate(tipped) if vessel in numbers]
