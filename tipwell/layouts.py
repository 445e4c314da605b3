"""Nets that are laid out to tip at told ticks: promise 12 of the document."""


def counter(sizes):
    """Lay out vessels that count one another's tips, the first one by ticks."""
    vessels = []
    for number, size in enumerate(sizes):
        target = number + 1 if number + 1 < len(sizes) else None
        vessels.append((size, size, one_on(target, size), False, None, ()))
    return tuple(vessels), ((0, 1, True),)


def bell_for(ticks):
    """Lay out a net whose vessel 0 tips at just these ticks."""
    vessels, spouts = [(1, 1, ((None, 1),), False, None, ())], []
    for number, tick in enumerate(ticks):
        # It tips with the tick ahead of the told one, as what it sends comes a tick later, and then has had its fill.
        vessels.append((tick, tick, one_on(0, tick), False, None, (("shut", number),)))
        spouts.append((number + 1, 1, True))
    return tuple(vessels), tuple(spouts)


def one_on(target, size):
    """Tell the outs by which a vessel of this size that is just full sends 1 on and the rest to the ground."""
    if size > 1:
        return (target, 1), (None, size - 1)
    return ((target, 1),)
