"""A run of a net, its book, and what is taken back: promises 9, 26 and 27 of the document."""

from tipwell.errors import NoNet, Nothing
from tipwell.moments import first_moment, moment_gone, moment_poured
from tipwell.nets import is_net, need_vessel


class Run:
    """A net that is poured into and goes, tick by tick, and back again."""

    def __init__(self, net):
        if not is_net(net):
            raise NoNet("a run is made of a net")
        self.net = net
        self.rows = []
        # A moment ahead of each row and one behind the last, so that taking back is dropping the last of both.
        self.moments = [first_moment(net)]
        self.tip_ticks = [[] for vessel in net[0]]

    def pour(self, vessel, amount):
        """Pour the amount into the vessel with the next tick."""
        need_vessel(self.net, vessel)
        self.moments.append(moment_poured(self.moments[-1], vessel, amount))
        self.rows.append(("pour", vessel, amount))

    def go(self, many):
        """Go so many ticks."""
        moment, tipped = moment_gone(self.net, self.moments[-1], many)
        self.moments.append(moment)
        self.rows.append(("go", many, tipped))
        for tick, number in tipped:
            self.tip_ticks[number].append(tick)

    def back(self):
        """Take back what was poured or gone last."""
        if not self.rows:
            raise Nothing("nothing was poured or gone")
        self.moments.pop()
        word, what, last = self.rows.pop()
        if word == "go":
            for tick, number in last:
                self.tip_ticks[number].pop()

    def tick(self):
        """Tell how many ticks are gone."""
        return self.moments[-1][0]

    def state(self):
        """Tell the state as it is, without what is poured for the next tick."""
        return self.moments[-1][1]

    def tips(self, vessel):
        """List the ticks with which the vessel tipped so far."""
        need_vessel(self.net, vessel)
        return list(self.tip_ticks[vessel])

    def came(self):
        """Tell how much came in so far."""
        return self.moments[-1][3]

    def grounded(self):
        """Tell how much went to the ground so far."""
        return self.moments[-1][4]

    def book(self):
        """List a row for each pouring and each going."""
        return list(self.rows)
