"""A second telling of promise 7, sentence by sentence, to hold the program's ticks against."""


def plain_tick(net, state, poured, stuck=None):
    """The tick of the net, or of the net with that vessel stuck (16)."""
    vessels, spouts = net
    held, coming, doors = state
    many = len(vessels)
    has = []
    for number in range(many):
        flow = sum(spouts[k][1] for k in range(len(spouts)) if doors[k] and spouts[k][0] == number)
        has.append(held[number] + coming[number] + flow + poured[number])
    over = [max(has[number] - vessels[number][1], 0) for number in range(many)]
    below = [min(has[number], vessels[number][1]) for number in range(many)]
    tipped = tuple(number for number in range(many) if below[number] >= vessels[number][0] and number != stuck)
    going = [(vessels[number][4], over[number]) for number in range(many)]
    stays = list(below)
    for number in tipped:
        outs = vessels[number][2]
        # Round by round, not by division, as long as a whole round of all parts is there.
        while stays[number] >= sum(parts for _, parts in outs):
            for target, parts in outs:
                going.append((target, parts))
                stays[number] -= parts
        if not vessels[number][3]:
            going.append((None, stays[number]))
            stays[number] = 0
    comes = tuple(sum(amount for target, amount in going if target == number) for number in range(many))
    grounded = sum(amount for target, amount in going if target is None)
    now_open = {k for k in range(len(spouts)) if doors[k]}
    for number in tipped:
        for word, spout in vessels[number][5]:
            if word == "open" or (word == "turn" and spout not in now_open):
                now_open.add(spout)
            else:
                now_open.discard(spout)
    behind = (tuple(stays), comes, tuple(k in now_open for k in range(len(spouts))))
    return behind, tipped, grounded
