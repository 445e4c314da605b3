"""States gone through in the order in which they come up, as promises 14, 15 and 19 of the document tell it."""

from tipwell.errors import TooMany
from tipwell.ticks import pouring, tick_behind


def watch(net, state, vessel, amount):
    """Pour the amount into vessel 0: tell the state behind the tick, and whether the vessel tips with it."""
    behind, tipped, grounded = tick_behind(net, state, pouring(net, amount))
    return behind, vessel in tipped


def go_through(first, step, most, limit):
    """Go through all that comes up behind the first thing, of each by the pourings from 0 to most.

    step tells, of a thing and a pouring, the thing behind it and whether it is an end. Told are the row of pourings
    to the end that is met first, None where there is none, and the things that came up, limit of them at most.
    """
    found, rows, place = [first], {first: []}, 0
    while place < len(found):
        here = found[place]
        for amount in range(most + 1):
            row = rows[here] + [amount]
            behind, is_end = step(here, amount)
            if is_end:
                return row, found
            if behind not in rows:
                if len(found) >= limit:
                    raise TooMany("more comes up than is gone through")
                rows[behind] = row
                found.append(behind)
        place += 1
    return None, found
