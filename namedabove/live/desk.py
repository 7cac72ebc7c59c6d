"""Desks: a company and a rule that change, and pledges that hold at any time."""

from namedabove.base.companies import check_company, check_person
from namedabove.base.names import is_name
from namedabove.errors import Broken, InvalidCompany, InvalidOperation, InvalidPledge, UnknownName
from namedabove.live.inbox import Inbox
from namedabove.live.pledges import Papers, is_pledge
from namedabove.live.trials import History, Trial
from namedabove.read.rules import check_rule
from namedabove.walk.states import check_limit


class Agreement:
    """What a desk has at one time: a company, a rule, and pledges under names; it never changes."""

    def __init__(self, group, reader, named):
        self.group = group
        self.reader = reader
        self.named = named

    def is_same(self, other):
        """Whether all is equal to what another agreement has."""
        return self.group == other.group and self.reader == other.reader and self.named == other.named

    def check(self, names, limit):
        """Raise Broken for the first of these pledges that does not hold, or TooMany where one needs too much."""
        papers = Papers(self.group, self.reader, limit)
        for name in names:
            reason = papers.refusal(self.named[name])
            if reason is not None:
                raise Broken(name, reason)


class Desk:
    """A company, a rule and pledges; a change with which one of these would not hold is refused."""

    def __init__(self, company, rule, *, limit=2000):
        check_company(company)
        check_rule(rule)
        check_limit(limit)
        self._limit = limit
        self._first = Agreement(company, rule, {})
        self._is_making = False
        self._history = History((), ())
        self._now = self._first

    @property
    def company(self):
        """The company."""
        return self._now.group

    @property
    def rule(self):
        """The rule."""
        return self._now.reader

    @property
    def pledges(self):
        """The dict from names to pledges."""
        return {name: self._now.named[name] for name in sorted(list(self._now.named))}

    @property
    def version(self):
        """How many changes are in effect."""
        return len(self._history.done)

    def pledge(self, name, pledge):
        """Take a pledge under a name."""
        if not is_name(name) or name in self._now.named:
            raise InvalidOperation("the name is none, or is there")
        if not is_pledge(self._now.group, pledge):
            raise InvalidPledge("the value is no pledge for the company")
        return self._change(Agreement(self._now.group, self._now.reader, {**self._now.named, name: pledge}), [name])

    def release(self, name):
        """Let a pledge go."""
        self._check_name(name)
        named = {other: self._now.named[other] for other in self._now.named if other != name}
        return self._change(Agreement(self._now.group, self._now.reader, named), [])

    def answer(self, writer, answerer, turn):
        """Set the turn with which somebody answers letters of a writer, or bar this with None."""
        return self._change_company(self._now.group.with_answer(writer, answerer, turn))

    def taking(self, writer, answerer, turn):
        """Set the turn with which somebody takes letters of a writer, or bar this with None."""
        return self._change_company(self._now.group.with_taking(writer, answerer, turn))

    def copy(self, person, cutter):
        """Set the cutter of the road from a person to the reader."""
        return self._change_company(self._now.group.with_copy(person, cutter))

    def start(self, person, may_start):
        """Let a person write letters upon none, or not."""
        check_person(self._now.group, person)
        if not isinstance(may_start, bool):
            raise InvalidOperation("may_start is no boolean")
        starts = [other for other in self._now.group.starts if other != person]
        if may_start:
            starts.append(person)
        return self._change_company(self._now.group.with_starts(tuple(sorted(starts))))

    def use(self, rule):
        """Set the rule."""
        check_rule(rule)
        return self._change(Agreement(self._now.group, rule, self._now.named), self._now.named)

    def replace(self, company):
        """Set a company with the same people."""
        check_company(company)
        if company.people != self._now.group.people:
            raise InvalidCompany("the company has other people")
        return self._change_company(company)

    def make(self, *changes):
        """Call functions with this desk; all their changes together are one."""
        for change in changes:
            if change is None or isinstance(change, (int, str, tuple, list, dict)):
                raise InvalidOperation("a value is no function")
        self._check_making()
        before = self._now
        self._is_making = True
        try:
            for change in changes:
                change(self)
            made = self._now
        finally:
            self._now = before
            self._is_making = False
        return self._change(made, made.named)

    def paper(self, name):
        """A paper that shows that a pledge holds."""
        self._check_name(name)
        return Papers(self._now.group, self._now.reader, self._limit).paper(self._now.named[name])

    def inbox(self):
        """A new inbox with the rule."""
        return Inbox(self._now.reader)

    def undo(self, *, many=1):
        """Take back the last changes, and tell the version."""
        self._check_making()
        self._history = self._history.taken_back(many)
        return self._go_back()

    def redo(self, *, many=1):
        """Make changes again that were taken back, and tell the version."""
        self._check_making()
        self._history = self._history.done_again(many)
        return self._go_back()

    def trial(self):
        """A block that gives this desk, and behind which it is as before."""
        return Trial(self)

    def attempt(self, action):
        """What an action returns that is called with this desk in such a block."""
        with self.trial() as same:
            return action(same)

    def twin(self):
        """An independent desk that is equal in all that is told."""
        other = Desk(self._first.group, self._first.reader, limit=self._limit)
        other._history = self._history
        other._now = self._now
        return other

    def __contains__(self, x):
        return isinstance(x, str) and x in self._now.named

    def __len__(self):
        return len(self._now.named)

    def __eq__(self, other):
        if not isinstance(other, Desk):
            return False
        here, there = self._now, other._now
        return here.group == there.group and here.reader == there.reader and here.named == there.named

    def __str__(self):
        people = f"{len(self._now.group)} people, {len(self._now.named)} pledges"
        return f"desk of {people}, version {len(self._history.done)}"

    def _check_name(self, name):
        """Raise UnknownName for what is the name of no pledge."""
        if not isinstance(name, str) or name not in self._now.named:
            raise UnknownName(name)

    def _check_making(self):
        """Raise InvalidOperation while changes are made that count as one."""
        if self._is_making:
            raise InvalidOperation("changes are being made")

    def _change_company(self, company):
        """Have this company, if all pledges hold then."""
        return self._change(Agreement(company, self._now.reader, self._now.named), self._now.named)

    def _change(self, made, names):
        """Have what is made, if it is no change or these pledges hold then, and tell the version."""
        if made.is_same(self._now):
            return self.version
        if not self._is_making:
            made.check(sorted(list(names)), self._limit)
            self._history = self._history.with_deed(made)
        self._now = made
        return self.version

    def _go_back(self):
        """Be again as the changes in effect tell."""
        done = self._history.done
        self._now = done[-1] if done else self._first
        return self.version
