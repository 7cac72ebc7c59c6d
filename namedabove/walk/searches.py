"""Searches for the cheapest parting of letters of two people, on the states or the runs of a company."""

from namedabove.errors import TooMany
from namedabove.walk.heads import Heads
from namedabove.walk.nets import LOSS, Net, way_from
from namedabove.walk.paths import path_to
from namedabove.walk.questions import ABOVE
from namedabove.walk.runs import Runs


class Search:
    """The cheapest parting of a kin on a net, of a letter of one of some people and one of some others."""

    def __init__(self, net, kin, people, others):
        self._net = net
        self._kin = kin
        self.reached = net.costs_to()
        self.zero = net.costs_from(people, 0)
        self.one = net.costs_from(others, 1)
        reached, zero, one = self.reached, self.zero, self.one
        if kin == ABOVE:
            costs = [(reached[node][0] + one[node][0], node) for node in net.ends(people, 0) if node in one]
        else:
            costs = [(reached[node][0] + zero[node][0] + one[node][0], node) for node in zero if node in one]
        self._best = min(costs, default=None)

    def least(self):
        """The least number of losses of a parting; None without one."""
        return None if self._best is None else self._best[0] // LOSS

    def is_within(self, most):
        """Whether there is a parting with at most so many losses, for None with any number."""
        return self._best is not None and (most is None or self.least() <= most)

    def parting(self):
        """The paper of a cheapest parting: the word, its lot, and its two letters."""
        node = self._best[1]
        way = path_to(self.reached, node)
        branches = [way_from(self.one, node)]
        if self._kin != ABOVE:
            branches = [way_from(self.zero, node), *branches]
        lot, lasts = self._net.lot(way, branches)
        first = len(way) - 1 if self._kin == ABOVE else lasts[0]
        return ("lot", lot, first, lasts[-1])

    def told(self):
        """The list of pairs of what is told of a node, ascending, and the node."""
        return self._net.told()


class Searches:
    """The nets of a company and a rule, with nodes up to a limit, each made once, and the searches on them."""

    def __init__(self, company, rule, limit):
        self._company = company
        self._limit = limit
        self._heads = Heads(company, rule)
        self._nets = {}

    def has_states(self):
        """Whether there are no more states than the limit."""
        return self._net_for(None) is not None

    def on_states(self, one, other, kin):
        """The search for letters of two people on the net of states; TooMany for too many of these."""
        return self.for_some((one,), (other,), kin)

    def for_some(self, people, others, kin):
        """The same for letters of any of some people, and any of some others."""
        return Search(self._checked(None), kin, people, others)

    def on_runs(self, one, other, kin, most):
        """The search for letters of two people on the net of runs; TooMany for too many of these."""
        return Search(self._checked(most), kin, (one,), (other,))

    def _checked(self, most):
        """The net of the runs with so long rows, or of states; TooMany for too many of them."""
        net = self._net_for(most)
        if net is None:
            raise TooMany(self._limit)
        return net

    def _net_for(self, most):
        """The net of the runs with so long rows, or of states if it is None; None for too many of them."""
        if most not in self._nets:
            net = Net(self._company, self._heads if most is None else Runs(self._heads, most))
            self._nets[most] = net if net.grow(self._limit) else None
        return self._nets[most]
