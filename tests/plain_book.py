"""A second telling of promise 28: a book looked over row by row, each row held against what the plain ticks make."""

from plain_run import plain_first
from plain_tick import plain_tick


def is_int(thing):
    return type(thing) is int


def plain_first_lie(net, book):
    state, tick, waiting = plain_first(net), 0, [0] * len(net[0])
    for place, row in enumerate(book):
        if type(row) is not tuple or len(row) != 3 or type(row[0]) is not str or not is_int(row[1]):
            return place
        if row[0] == "pour":
            if not 0 <= row[1] < len(net[0]) or not is_int(row[2]) or not 0 <= row[2] <= 1000:
                return place
            waiting[row[1]] += row[2]
            if waiting[row[1]] > 1000:
                return place
        elif row[0] == "go":
            if row[1] < 0 or tick + row[1] > 3000:
                return place
            tipped = []
            for _ in range(row[1]):
                state, numbers, _ = plain_tick(net, state, tuple(waiting))
                tipped += [(tick, number) for number in numbers]
                waiting = [0] * len(net[0])
                tick += 1
            # By their repr, in which a truth is no number and a list no tuple.
            if repr(row[2]) != repr(tuple(tipped)):
                return place
        else:
            return place
    return None
