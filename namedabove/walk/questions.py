"""What is asked of two people: whether letters of both can be parted, above one another or side by side."""

from namedabove.base.companies import check_company, check_person
from namedabove.base.names import is_whole
from namedabove.errors import InvalidNumber, InvalidOperation
from namedabove.read.lots import Lot, together
from namedabove.read.rules import check_rule
from namedabove.walk.nets import LOSS, cheapest, way_from
from namedabove.walk.paths import path_to

ABOVE = "above"
KINS = ("above", "beside")
MAX_LOSSES = 1000


def check_question(company, rule, one, other, kin):
    """Raise the error of the first of these that is none."""
    check_company(company)
    check_rule(rule)
    check_person(company, one)
    check_person(company, other)
    if kin not in KINS:
        raise InvalidOperation("the kin is none of the two words")


def check_losses(most):
    """Raise InvalidNumber for what is no number of losses."""
    if not is_whole(most) or not 0 <= most <= MAX_LOSSES:
        raise InvalidNumber(most)


class Question:
    """A company and a rule, two people, and a kin of their letters."""

    def __init__(self, company, rule, one, other, kin):
        check_question(company, rule, one, other, kin)
        self._company = company
        self._rule = rule
        self._one = one
        self._other = other
        self._kin = kin

    def is_kin(self, bundle, first, second):
        """Whether two letters of a bundle stand to one another as is asked."""
        last = bundle.parting(first, second)
        if self._kin == ABOVE:
            return first != second and last == first
        return last not in (None, first, second)

    def is_parting(self, lot, first, second):
        """Whether the values are a parting of the two people, with its letters."""
        if not isinstance(lot, Lot) or lot.bundle.company != self._company:
            return False
        if first not in lot or second not in lot:
            return False
        bundle = lot.bundle
        if bundle[first][0] != self._one or bundle[second][0] != self._other:
            return False
        if bundle.talk_of(first) != bundle.talk_of(second) or not self.is_kin(bundle, first, second):
            return False
        return not together(self._rule, lot, first, second)


class Search:
    """The cheapest parting of a kin on a net, of a letter of one of some people and one of some others."""

    def __init__(self, net, kin, people, others):
        self._net = net
        self._kin = kin
        ends = net.ends(people, 0)
        self.reached = net.costs_to()
        self.zero = net.costs_from(ends)
        self.one = net.costs_from(net.ends(others, 1))
        if kin == ABOVE:
            self._best = cheapest(self.reached, [self.one], ends)
        else:
            self._best = cheapest(self.reached, [self.zero, self.one], list(self.reached))

    def least(self):
        """The least number of losses of a parting; None without one."""
        return None if self._best is None else self._best[0] // LOSS

    def parting(self):
        """The lot of a cheapest parting, and its two letters."""
        node = self._best[1]
        way = path_to(self.reached, node)
        branches = [way_from(self.one, node)]
        if self._kin != ABOVE:
            branches = [way_from(self.zero, node), *branches]
        lot, lasts = self._net.lot(way, branches)
        first = len(way) - 1 if self._kin == ABOVE else lasts[0]
        return lot, first, lasts[-1]
