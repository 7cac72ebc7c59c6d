"""Pledges: what a company and a rule promise, and the papers that show whether they hold."""

from namedabove.read.rules import Rule
from namedabove.walk.alike import find_unlike
from namedabove.walk.mixed import find_mixed
from namedabove.walk.parted import parted_paper
from namedabove.walk.places import find_wrong
from namedabove.walk.questions import KINS, is_losses
from namedabove.walk.rows import rows_paper
from namedabove.walk.searches import Searches

WHOLE = "whole"
ROWS = "rows"
PURE = "pure"
PLACED = "placed"
LIKE = "like"


def is_pledge(company, value):
    """Whether the value is a pledge for a company."""
    if not isinstance(value, tuple) or value == ():
        return False
    if value[0] in (PURE, PLACED):
        return len(value) == 1
    if value[0] == LIKE:
        return len(value) == 2 and isinstance(value[1], Rule)
    if value[0] not in (WHOLE, ROWS) or len(value) != 5:
        return False
    word, one, other, kin, most = value
    if one not in company.people or other not in company.people or kin not in KINS:
        return False
    return is_losses(most) or word == WHOLE and most is None


class Papers:
    """The papers for pledges of a company and a rule; what several of them need is reckoned once."""

    def __init__(self, company, rule, limit):
        self._company = company
        self._rule = rule
        self._searches = Searches(company, rule, limit)

    def paper(self, pledge):
        """The paper that shows that a pledge holds, or a lot that shows that it does not."""
        word, *rest = pledge
        if word == WHOLE:
            return parted_paper(self._searches, *rest)
        if word == ROWS:
            return rows_paper(self._searches, *rest)
        if word == PURE:
            return find_mixed(self._company, self._rule)
        if word == PLACED:
            return find_wrong(self._company, self._rule)
        return find_unlike(self._company, self._rule, rest[0])

    def refusal(self, pledge):
        """The lot that shows that a pledge does not hold, with its letters; None if it holds."""
        if pledge[0] == WHOLE:
            _, one, other, kin, most = pledge
            search = self._searches.on_states(one, other, kin)
            return search.parting() if search.is_within(most) else None
        if pledge[0] == ROWS:
            _, one, other, kin, most = pledge
            search = self._searches.on_runs(one, other, kin, most)
            return search.parting() if search.is_within(None) else None
        paper = self.paper(pledge)
        return paper if paper[0] == "lot" else None
