"""A second telling of promises 9, 26 and 27: all that a run tells, from its first state on, of the steps it has done."""

from plain_tick import plain_tick


def plain_first(net):
    many = len(net[0])
    return ((0,) * many, (0,) * many, tuple(spout[2] for spout in net[1]))


def plain_flow(net, state):
    return sum(spout[1] for spout, door in zip(net[1], state[2]) if door)


def plain_run(net, steps):
    """The steps are ("pour", vessel, amount) and ("go", many); what was taken back is none of them."""
    many_vessels = len(net[0])
    state, came, grounded, tick = plain_first(net), 0, 0, 0
    waiting = [0] * many_vessels
    tips = [[] for _ in range(many_vessels)]
    book = []
    for step in steps:
        if step[0] == "pour":
            waiting[step[1]] += step[2]
            book.append(step)
            continue
        tipped_so_far = []
        for _ in range(step[1]):
            came += plain_flow(net, state) + sum(waiting)
            state, tipped, lost = plain_tick(net, state, tuple(waiting))
            grounded += lost
            for number in tipped:
                tips[number].append(tick)
                tipped_so_far.append((tick, number))
            waiting = [0] * many_vessels
            tick += 1
        book.append(("go", step[1], tuple(tipped_so_far)))
    return {"tick": tick, "state": state, "tips": tips, "came": came, "grounded": grounded, "book": book}


def told_by(run, vessel_count):
    """The same of a run of the program."""
    return {
        "tick": run.tick(),
        "state": run.state(),
        "tips": [run.tips(vessel) for vessel in range(vessel_count)],
        "came": run.came(),
        "grounded": run.grounded(),
        "book": run.book(),
    }
