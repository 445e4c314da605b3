"""The least machine of a net: promise 15 of the document."""

from tipwell.search import go_through, watch
from tipwell.ticks import first_state

MOST_STATES = 200


def least(net, watched, most):
    """Tell the least machine that tips as the watched vessel does, whatever is poured into vessel 0."""
    machine = whole_machine(net, watched, most)
    rooms = rooms_of(machine)
    # The states stand in the order in which they come up, so the first state of each room tells it, in their order.
    firsts = [rooms.index(room) for room in range(max(rooms) + 1)]
    return [[(rooms[behind], tips) for behind, tips in machine[state]] for state in firsts]


def whole_machine(net, watched, most):
    """Tell the machine that has a room for each state."""
    row, states = go_through(
        first_state(net), lambda state, amount: (watch(net, state, watched, amount)[0], False), most, MOST_STATES
    )
    places = {state: place for place, state in enumerate(states)}
    machine = []
    for state in states:
        told = [watch(net, state, watched, amount) for amount in range(most + 1)]
        machine.append([(places[behind], tips) for behind, tips in told])
    return machine


def rooms_of(machine):
    """List for each state the number of its room: one room for all states that no row of pourings parts."""
    rooms = numbered([tuple([tips for behind, tips in pairs]) for pairs in machine])
    while True:
        finer = numbered([
            (rooms[state], tuple([rooms[behind] for behind, tips in pairs])) for state, pairs in enumerate(machine)
        ])
        if finer == rooms:
            return rooms
        rooms = finer


def numbered(signs):
    """List for each sign its number, the signs numbered from 0 in the order in which they first come."""
    numbers = {}
    for sign in signs:
        numbers.setdefault(sign, len(numbers))
    return [numbers[sign] for sign in signs]
