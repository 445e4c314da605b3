"""The moments of a run, for runs, desks, books and faults: promises 9 and 26 of the document.

A moment is a tuple (tick, state, poured, came, grounded): how many ticks are gone, the state, what is poured with the
next tick, and how much came in and went to the ground so far.
"""

from tipwell.ticks import came_in, first_state, pouring, tick_behind

MOST_POURED = 1000
MOST_TICKS = 3000


def first_moment(net):
    """Tell the moment ahead of all pouring and going."""
    return 0, first_state(net), pouring(net, 0), 0, 0


def moment_poured(moment, vessel, amount):
    """Tell the moment behind a pouring."""
    tick, state, poured, came, grounded = moment
    more = list(poured)
    more[vessel] += amount
    return tick, state, tuple(more), came, grounded


def moment_gone(net, moment, many):
    """Tell the moment so many ticks later, and the pairs of the tick and the vessel of all tips in these ticks."""
    tipped = []
    for step in range(many):
        tick = moment[0]
        moment, numbers = moment_behind(net, moment)
        tipped.extend([(tick, number) for number in numbers])
    return moment, tuple(tipped)


def moment_behind(net, moment):
    """Tell the moment behind one tick, and the vessels that tipped with it."""
    tick, state, poured, came, grounded = moment
    behind, tipped, lost = tick_behind(net, state, poured)
    came += came_in(net, state, poured)
    return (tick + 1, behind, pouring(net, 0), came, grounded + lost), tipped


def most_to_pour(moment, vessel):
    """Tell how much more may be poured into the vessel with the next tick."""
    return MOST_POURED - moment[2][vessel]


def most_to_go(moment):
    """Tell how many more ticks may be gone."""
    return MOST_TICKS - moment[0]
