"""Whether two nets act alike: promises 13 and 14 of the document."""

from tipwell.search import go_through, watch
from tipwell.ticks import first_state

MOST_PAIRS = 300


def alike(net, other, one, two, most):
    """Tell the pairs of states by which the nets act alike, or a shortest row of pourings that parts them."""

    def step(pair, amount):
        state, tips = watch(net, pair[0], one, amount)
        other_state, other_tips = watch(other, pair[1], two, amount)
        return (state, other_state), tips != other_tips

    row, pairs = go_through((first_state(net), first_state(other)), step, most, MOST_PAIRS)
    if row is None:
        return "alike", pairs
    return "parted", row
