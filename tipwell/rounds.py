"""Where a net's states come again, and its tips for ever: promises 10 and 11 of the document."""

from tipwell.errors import TooLong
from tipwell.nets import need_vessel
from tipwell.ticks import first_state, pouring, tick_behind

LAST_TICK = 2000


def round_of(net):
    """Tell the pair of the tick from which on the states come again, and how many ticks later they do."""
    ahead, told = go_round(net)
    return ahead, len(told) - ahead


def tips_by(net, vessel, ticks):
    """Tell how often the vessel tips within so many ticks."""
    need_vessel(net, vessel)
    ahead, told = go_round(net)
    return sum_by([1 if vessel in tipped else 0 for state, tipped, grounded in told], ahead, ticks)


def tick_of(net, vessel, number):
    """Tell the tick at which the vessel tips for the so-manieth time, None where it never tips so often."""
    need_vessel(net, vessel)
    ahead, told = go_round(net)
    tips = [tick for tick, (state, tipped, grounded) in enumerate(told) if vessel in tipped]
    later = [tick for tick in tips if tick >= ahead]
    if 1 <= number <= len(tips):
        return tips[number - 1]
    # A number below 1 is beyond the bounds; there is no such tip, and that is no error.
    if number < 1 or not later:
        return None
    rounds, place = divmod(number - len(tips) - 1, len(later))
    return later[place] + (rounds + 1) * (len(told) - ahead)


def go_round(net):
    """Tell the tick ahead of the round, and what is told of each tick up to the round's end."""
    state, nothing = first_state(net), pouring(net, 0)
    seen, told = {}, []
    for tick in range(LAST_TICK + 1):
        if state in seen:
            return seen[state], told
        seen[state] = tick
        told.append(tick_behind(net, state, nothing))
        state = told[-1][0]
    raise TooLong("no state comes again in time")


def sum_by(amounts, ahead, ticks):
    """Sum the amounts of so many ticks, where those from the tick ahead on come again for ever."""
    early, later = amounts[:ahead], amounts[ahead:]
    rounds, rest = divmod(max(0, ticks - ahead), len(later))
    return sum(early[:max(0, ticks)]) + rounds * sum(later) + sum(later[:rest])
