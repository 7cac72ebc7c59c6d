"""What is asked of two people: whether letters of both can be parted, above one another or side by side."""

from namedabove.base.companies import check_company, check_person
from namedabove.base.names import is_whole
from namedabove.errors import InvalidNumber, InvalidOperation
from namedabove.read.lots import Lot, together
from namedabove.read.rules import check_rule

ABOVE = "above"
KINS = ("above", "beside")
MAX_LOSSES = 1000


def check_question(company, rule, one, other, kin):
    """Raise the error of the first of these that is none."""
    check_company(company)
    check_rule(rule)
    check_person(company, one)
    check_person(company, other)
    check_kin(kin)


def check_kin(kin):
    """Raise InvalidOperation for what is none of the two words."""
    if kin not in KINS:
        raise InvalidOperation("the kin is none of the two words")


def is_losses(value):
    """Whether the value is a number of losses that can be asked for."""
    return is_whole(value) and 0 <= value <= MAX_LOSSES


def check_losses(most):
    """Raise InvalidNumber for what is no number of losses."""
    if not is_losses(most):
        raise InvalidNumber(most)


def check_most(most):
    """Raise InvalidNumber for what is neither a number of losses nor None."""
    if most is not None:
        check_losses(most)


class Question:
    """A company and a rule, two people, and a kin of their letters."""

    def __init__(self, company, rule, one, other, kin):
        check_question(company, rule, one, other, kin)
        self._company = company
        self._rule = rule
        self._one = one
        self._other = other
        self._kin = kin

    def is_kin(self, bundle, first, second):
        """Whether two letters of a bundle stand to one another as is asked."""
        last = bundle.parting(first, second)
        if self._kin == ABOVE:
            return first != second and last == first
        return last not in (None, first, second)

    def is_parting(self, lot, first, second):
        """Whether the values are a parting of the two people, with its letters."""
        if not isinstance(lot, Lot) or lot.bundle.company != self._company:
            return False
        if first not in lot or second not in lot:
            return False
        bundle = lot.bundle
        if bundle[first][0] != self._one or bundle[second][0] != self._other:
            return False
        if bundle.talk_of(first) != bundle.talk_of(second) or not self.is_kin(bundle, first, second):
            return False
        return not together(self._rule, lot, first, second)
