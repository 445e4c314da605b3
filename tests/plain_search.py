"""A second telling of how states are gone through (14, 15, 19), and the trying of all rows besides it."""

from itertools import product

from plain_run import plain_first
from plain_tick import plain_tick


def plain_watch(net, state, vessel, amount):
    """The state behind a tick with the amount poured into vessel 0, and whether the vessel tips with it."""
    behind, tipped, _ = plain_tick(net, state, (amount,) + (0,) * (len(net[0]) - 1))
    return behind, vessel in tipped


def plain_tips_along(net, vessel, row):
    """For each pouring of the row, from the first state on, whether the vessel tips with it."""
    state, tips = plain_first(net), []
    for amount in row:
        state, tipped = plain_watch(net, state, vessel, amount)
        tips.append(tipped)
    return tips


def plain_come_up(first, step, most, limit):
    """("end", row), ("all", things), or ("too many", None); step tells the thing behind and whether it is an end."""
    things, rows, there = [first], [[]], {first}
    # A list may grow while it is gone through: each thing that comes up is gone through in its turn.
    for place, thing in enumerate(things):
        for amount in range(most + 1):
            behind, is_end = step(thing, amount)
            if is_end:
                return "end", rows[place] + [amount]
            if behind not in there:
                if len(things) == limit:
                    return "too many", None
                there.add(behind)
                things.append(behind)
                rows.append(rows[place] + [amount])
    return "all", things


def shortest_end(first, step, most, longest):
    """How long the shortest row to an end is, all rows of each length up to the longest tried; or None."""
    level = {first}
    for length in range(1, longest + 1):
        behind = [step(thing, amount) for thing in level for amount in range(most + 1)]
        if any(is_end for _, is_end in behind):
            return length
        level = {thing for thing, _ in behind}
    return None


def first_row_that_tips(net, vessel, most, longest):
    """The first one of the shortest rows that tip the vessel, row by row; or None."""
    for length in range(1, longest + 1):
        for row in product(range(most + 1), repeat=length):
            if plain_tips_along(net, vessel, row)[-1]:
                return list(row)
    return None
