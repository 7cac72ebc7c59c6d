"""States of letters: what is to be known of the colours above a letter to tell those of all below it."""

from namedabove.base.companies import check_company
from namedabove.base.names import is_mark_below, is_whole
from namedabove.errors import InvalidBundle, InvalidNumber, InvalidOperation, InvalidState, TooMany
from namedabove.read.rules import check_rule
from namedabove.talk.bundles import check_bundle, check_mark
from namedabove.walk.shorts import LOST, all_kept, colour_form, cut_short, is_colours, is_short, one_longer, short_form

MAX_STATES = 20000
NO_MARKS = ((), (), ())


def short_behind(turn, short, own):
    """The short form of the list of a letter that is written with a turn upon one of this colour and list."""
    road, adds, cutter = turn
    short = cut_short(road, short)
    if adds:
        short = one_longer(short, own)
    return cut_short(cutter, short)


def turns_from(company, person):
    """The tuple of triples (answerer, whether it is a taking, turn) for letters of this person."""
    found = []
    for other in company:
        for takes in (False, True):
            turn = company.turn(person, other, takes=takes)
            if turn is not None:
                found.append((other, takes, turn))
    return tuple(found)


class Walk:
    """How the states of letters of a company follow one another; it never changes."""

    def __init__(self, company, rule):
        check_company(company)
        check_rule(rule)
        self._company = company
        self._rule = rule
        self._top = 1 if rule.sees_lost else LOST
        self._through = {person: rule.through(company, person) for person in company}
        self._turns = {person: turns_from(company, person) for person in company}

    @property
    def company(self):
        """The company whose letters have these states."""
        return self._company

    @property
    def rule(self):
        """The rule by which letters are together."""
        return self._rule

    @staticmethod
    def short(row):
        """The short form of a tuple of integers."""
        if not isinstance(row, tuple) or not all([is_whole(number) for number in row]):
            raise InvalidOperation("the row is no tuple of integers")
        return short_form(row)

    def is_state(self, value):
        """Whether the value is a state that is possible, whether or not some letter has it."""
        if not isinstance(value, tuple) or len(value) != 3:
            return False
        person, own, short = value
        if person not in self._company.people or not is_colours((own,), self._top) or not is_short(short, self._top):
            return False
        return self._is_possible(person, own, short)

    def may_come(self, state):
        """Whether a letter may come in this state."""
        self._check_state(state)
        return self.comes(state)

    def cost(self, state):
        """0 for a state in which a letter may come, otherwise 1."""
        self._check_state(state)
        return self.loss(state)

    def begins(self):
        """The ascending tuple of the states of letters upon none."""
        return tuple([(person, own, NO_MARKS) for person in self._company.starts for own in range(self._top + 1)])

    def steps(self, state, *, takings=True):
        """The ascending tuple of the states of letters that answer, or take, a letter in this state."""
        self._check_state(state)
        if not isinstance(takings, bool):
            raise InvalidOperation("takings is no boolean")
        return self.after(state, takings)

    def states(self, *, limit=2000):
        """The ascending tuple of all states to which steps lead from the beginnings."""
        check_limit(limit)
        return tuple(sorted(list(self.all_steps(limit))))

    def state_of(self, bundle, mark, colours):
        """The state of a letter of a bundle, by the colours of the marks of its way and of its own one."""
        check_bundle(bundle)
        if bundle.company != self._company:
            raise InvalidBundle("the bundle is of another company")
        check_mark(bundle, mark)
        if not self._are_colours(bundle, mark, colours):
            raise InvalidOperation("the value is no dict of the colours that are needed")
        short = colour_form(tuple([colours[above] for above in bundle.list_of(mark)]))
        state = (bundle[mark][0], colours[mark], short)
        if not self.is_state(state):
            raise InvalidState("a letter with this colour came, and is bound to a mark of the other one")
        return state

    def __eq__(self, other):
        if not isinstance(other, Walk):
            return False
        return self._company == other._company and self._rule == other._rule

    def __str__(self):
        return f"walk of {len(self._company)} people by {self._rule!s}"

    def comes(self, state):
        """What may_come tells, of what is known to be a state."""
        person, own, short = state
        return own != LOST and 1 - own not in all_kept(self._through[person], short)

    def loss(self, state):
        """What cost tells, of what is known to be a state."""
        return 0 if self.comes(state) else 1

    def after(self, state, takings):
        """What steps tells, of what is known to be a state."""
        person, own, short = state
        found = {}
        for other, takes, turn in self._turns[person]:
            if takings or not takes:
                told = short_behind(turn, short, own)
                for colour in range(self._top + 1):
                    if self._is_possible(other, colour, told):
                        found[other, colour, told] = True
        return tuple(sorted(list(found)))

    def all_steps(self, limit):
        """A dict from all states to which steps lead from the beginnings to the tuples of their steps."""
        steps = {}
        found = list(self.begins())
        seen = {state: True for state in found}
        while found:
            if len(seen) > limit:
                raise TooMany(limit)
            state = found.pop()
            steps[state] = self.after(state, True)
            new = [step for step in steps[state] if step not in seen]
            for step in new:
                seen[step] = True
            found.extend(new)
        return steps

    def _is_possible(self, person, own, short):
        """Whether the rule sees lost marks, or no letter would come that may not."""
        return self._top != LOST or own == LOST or self.comes((person, own, short))

    def _are_colours(self, bundle, mark, value):
        """Whether the value is a dict of colours for this mark, those of its way, and perhaps others."""
        if not isinstance(value, dict):
            return False
        for other in value:
            if not is_mark_below(other, len(bundle)) or not is_colours((value[other],), self._top):
                return False
        return all([above in value for above in (*bundle.way_of(mark), mark)])

    def _check_state(self, value):
        """Raise InvalidState for what is no state."""
        if not self.is_state(value):
            raise InvalidState("the value is no state of this company and rule")


def check_limit(limit):
    """Raise InvalidNumber for what is no limit for a number of states."""
    if not is_whole(limit) or not 1 <= limit <= MAX_STATES:
        raise InvalidNumber(limit)
