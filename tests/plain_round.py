"""A second telling of promises 10 and 11: rounds and tips by looking through the plain ticks, nothing being poured."""

from plain_run import plain_first
from plain_tick import plain_tick


def plain_walk(net, many):
    """The states at the ticks from 0 to many, and the vessels that tip with each of so many ticks."""
    nothing = (0,) * len(net[0])
    states, tipped = [plain_first(net)], []
    for _ in range(many):
        behind, numbers, _ = plain_tick(net, states[-1], nothing)
        states.append(behind)
        tipped.append(numbers)
    return states, tipped


def plain_round(states):
    """The least tick whose state comes again within these, and how many ticks later it does first; or None."""
    for ahead, state in enumerate(states):
        for later in range(ahead + 1, len(states)):
            if states[later] == state:
                return ahead, later - ahead
    return None


def plain_tips(tipped, vessel):
    return [tick for tick, numbers in enumerate(tipped) if vessel in numbers]
