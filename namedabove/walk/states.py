"""States of letters: what is to be known of the colours above a letter to tell those of all below it."""

from namedabove.base.companies import check_company
from namedabove.base.names import is_mark_below, is_whole
from namedabove.errors import InvalidBundle, InvalidNumber, InvalidOperation, InvalidState, TooMany
from namedabove.read.rules import check_rule
from namedabove.talk.bundles import check_bundle, check_mark
from namedabove.walk.heads import Heads
from namedabove.walk.nets import Net
from namedabove.walk.shorts import LOST, is_row_of, short_form, without_lost

MAX_STATES = 20000


class Walk:
    """How the states of letters of a company follow one another; it never changes."""

    def __init__(self, company, rule):
        check_company(company)
        check_rule(rule)
        self._company = company
        self._rule = rule
        self._colours = (0, 1) if rule.sees_lost else (0, 1, LOST)
        self._heads = Heads(company, rule)

    @property
    def company(self):
        """The company whose letters have these states."""
        return self._company

    @property
    def rule(self):
        """The rule by which letters are together."""
        return self._rule

    @staticmethod
    def short(row):
        """The short form of a tuple of integers."""
        if not isinstance(row, tuple) or not all([is_whole(number) for number in row]):
            raise InvalidOperation("the row is no tuple of integers")
        return short_form(row)

    def is_state(self, value):
        """Whether the value is a state that is possible, whether or not some letter has it."""
        return self._heads.state_of(value) is not None

    def may_come(self, state):
        """Whether a letter may come in this state."""
        return self.cost(state) == 0

    def cost(self, state):
        """0 for a state in which a letter may come, otherwise 1."""
        return self._heads.loss(self._number(state))

    def begins(self):
        """The ascending tuple of the states of letters upon none."""
        return self._told(self._heads.first())

    def steps(self, state, *, takings=True):
        """The ascending tuple of the states of letters that answer, or take, a letter in this state."""
        number = self._number(state)
        if not isinstance(takings, bool):
            raise InvalidOperation("takings is no boolean")
        answering, taking = self._heads.upon(number)
        return self._told(answering + taking if takings else answering)

    def states(self, *, limit=2000):
        """The ascending tuple of all states to which steps lead from the beginnings."""
        check_limit(limit)
        net = Net(self._company, self._heads)
        if not net.grow(limit):
            raise TooMany(limit)
        return tuple([state for state, _ in net.told()])

    def state_of(self, bundle, mark, colours):
        """The state of a letter of a bundle, by the colours of the marks of its way and of its own one."""
        check_bundle(bundle)
        if bundle.company != self._company:
            raise InvalidBundle("the bundle is of another company")
        check_mark(bundle, mark)
        if not self._are_colours(bundle, mark, colours):
            raise InvalidOperation("the value is no dict of the colours that are needed")
        short = without_lost(short_form(tuple([colours[above] for above in bundle.list_of(mark)])))
        state = (bundle[mark][0], colours[mark], short)
        if not self.is_state(state):
            raise InvalidState("a letter with this colour came, and is bound to a mark of the other one")
        return state

    def __eq__(self, other):
        if not isinstance(other, Walk):
            return False
        return self._company == other._company and self._rule == other._rule

    def __str__(self):
        return f"walk of {len(self._company)} people by {self._rule!s}"

    def _told(self, heads):
        """The ascending tuple of the states of letters with these heads."""
        found = {state: True for head in heads for state, _ in self._heads.states(head)}
        return tuple(sorted([self._heads.told(state) for state in found]))

    def _are_colours(self, bundle, mark, value):
        """Whether the value is a dict of colours for this mark, those of its way, and perhaps others."""
        if not isinstance(value, dict):
            return False
        for other in value:
            if not is_mark_below(other, len(bundle)) or not is_row_of((value[other],), self._colours):
                return False
        return all([above in value for above in (*bundle.way_of(mark), mark)])

    def _number(self, value):
        """The number of a state; InvalidState for what is no state."""
        number = self._heads.state_of(value)
        if number is None:
            raise InvalidState("the value is no state of this company and rule")
        return number


def check_limit(limit):
    """Raise InvalidNumber for what is no limit for a number of states."""
    if not is_whole(limit) or not 1 <= limit <= MAX_STATES:
        raise InvalidNumber(limit)
