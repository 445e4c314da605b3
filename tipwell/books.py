"""The first lie of a book: promise 28 of the document."""

from tipwell.moments import first_moment, moment_gone, moment_poured, most_to_go, most_to_pour
from tipwell.nets import is_tuple, is_whole


def first_lie(net, book):
    """Tell the place of the first row of the book that is none or is not so, None where there is none."""
    moment = first_moment(net)
    for place, row in enumerate(book):
        moment = moment_told(net, moment, row)
        if moment is None:
            return place
    return None


def moment_told(net, moment, row):
    """Tell the moment behind the row, None where it is no row or is not so."""
    if not is_tuple(row, 3, 3):
        return None
    word, what, last = row
    if word == "pour" and may_pour(net, moment, what, last):
        return moment_poured(moment, what, last)
    if word == "go" and is_whole(what, 0, most_to_go(moment)):
        behind, tipped = moment_gone(net, moment, what)
        return behind if is_just(last, tipped) else None
    return None


def may_pour(net, moment, vessel, amount):
    """Tell whether the amount, of anything, may be poured into the vessel, of anything."""
    return is_whole(vessel, 0, len(net[0]) - 1) and is_whole(amount, 0, most_to_pour(moment, vessel))


def is_just(thing, tipped):
    """Tell whether the thing is just this tuple of pairs of numbers."""
    # Truths are numbers to Python and equal to 0 and 1, so each thing is looked at alone.
    return is_tuple(thing, len(tipped), len(tipped)) and all([
        is_tuple(pair, 2, 2) and is_whole(pair[0], tick, tick) and is_whole(pair[1], number, number)
        for pair, (tick, number) in zip(thing, tipped)
    ])
