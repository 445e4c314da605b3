"""The states of a net, and the plain tick: promises 5 to 8 of the document."""


def first_state(net):
    """Tell the state of the net ahead of its first tick."""
    vessels, spouts = net
    empty = (0,) * len(vessels)
    return empty, empty, tuple([door for target, flow, door in spouts])


def pouring(net, amount):
    """Tell what is poured with a tick where vessel 0 gets the amount, and no other vessel gets any."""
    vessels, spouts = net
    return (amount,) + (0,) * (len(vessels) - 1)


def tick_behind(net, state, poured):
    """Tell the state behind one tick, the vessels that tipped with it, and how much went to the ground."""
    vessels, spouts = net
    held, tipped, sent = [], [], {}
    for number, has in enumerate(filled(spouts, state, poured)):
        left, tips = settle(vessels[number], has, sent)
        held.append(left)
        if tips:
            tipped.append(number)
    coming = [sent.get(number, 0) for number in range(len(vessels))]
    doors = doors_behind(vessels, state[2], tipped)
    return (tuple(held), tuple(coming), doors), tuple(tipped), sent.get(None, 0)


def came_in(net, state, poured):
    """Tell how much comes in by spouts and by hand with the tick behind the state."""
    vessels, spouts = net
    held, coming, doors = state
    return sum(poured) + sum([flow for (target, flow, first_door), door in zip(spouts, doors) if door])


def filled(spouts, state, poured):
    """List what each vessel has with the tick, ahead of any running over or tipping."""
    held, coming, doors = state
    has = [sum(amounts) for amounts in zip(held, coming, poured)]
    for (target, flow, first_door), door in zip(spouts, doors):
        if door:
            has[target] += flow
    return has


def settle(vessel, has, sent):
    """Let one vessel run over and tip: tell what stays in it and whether it tipped."""
    size, brim, outs, holds, spill, acts = vessel
    over = max(0, has - brim)
    send(sent, spill, over)
    has -= over
    if has < size:
        return has, False
    left = share_out(outs, has, sent)
    if holds:
        return left, True
    send(sent, None, left)
    return 0, True


def share_out(outs, has, sent):
    """Send each out its parts as often as all parts together go whole into it: tell what is left."""
    whole = sum([parts for target, parts in outs])
    # Outs without any part are beyond the bounds; they get nothing, and that is no error.
    times = has // max(1, whole)
    for target, parts in outs:
        send(sent, target, parts * times)
    return has - whole * times


def send(sent, target, amount):
    """Add the amount to what goes to the target, a vessel's number or None for the ground."""
    sent[target] = sent.get(target, 0) + amount


def doors_behind(vessels, doors, tipped):
    """Tell the doors behind the acts of the vessels that tipped."""
    behind = list(doors)
    for number in tipped:
        size, brim, outs, holds, spill, acts = vessels[number]
        for word, spout in acts:
            behind[spout] = word == "open" or (word == "turn" and not behind[spout])
    return tuple(behind)
