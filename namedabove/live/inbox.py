"""Inboxes: what a reader shows and joins while letters come late."""

from namedabove.base.names import is_mark, is_marks_below, is_name
from namedabove.errors import InvalidLetter, InvalidOperation, UnknownName
from namedabove.live.letters import Letters
from namedabove.live.trials import History, Trial
from namedabove.read.bonds import least_chain
from namedabove.read.lots import check_lot
from namedabove.read.rules import check_rule
from namedabove.talk.bundles import check_bundle


def arrival(bundle, mark):
    """The arrival of a letter of a bundle: its mark, its writer, and the copy of its list."""
    check_bundle(bundle)
    return (mark, bundle[mark][0], bundle.copy_of(mark))


def arrivals(lot):
    """The tuple of the arrivals of the letters of a lot that came."""
    check_lot(lot)
    return tuple([arrival(lot.bundle, mark) for mark in lot.came])


def is_arrival(value):
    """Whether the value is an arrival."""
    if not isinstance(value, tuple) or len(value) != 3:
        return False
    mark, writer, copy = value
    return is_mark(mark) and is_name(writer) and is_marks_below(copy, mark)


class Inbox:
    """A rule and the arrivals that it is read by."""

    def __init__(self, rule, *told):
        check_rule(rule)
        self._first = rule
        self._history = History((), ())
        self._now = Letters(rule, {})
        self.receive(*told)

    @classmethod
    def of(cls, rule, told):
        """An inbox that has received the arrivals of a tuple."""
        check_rule(rule)
        if not isinstance(told, tuple):
            raise InvalidLetter("the arrivals are no tuple")
        return cls(rule, *told)

    @property
    def rule(self):
        """The rule by which letters are shown and together."""
        return self._now.reader

    @rule.setter
    def rule(self, value):
        self.use(value)

    @property
    def marks(self):
        """The ascending tuple of the marks of the letters."""
        return self._now.order

    @property
    def groups(self):
        """The tuple of the groups of letters that are together, ordered by their first marks."""
        group = self._now.group
        return tuple([group[mark] for mark in self._now.order if group[mark][0] == mark])

    @property
    def version(self):
        """How many deeds are in effect."""
        return len(self._history.done)

    def receive(self, *told):
        """Take arrivals, and tell how many letters are new."""
        if not all([is_arrival(value) for value in told]):
            raise InvalidLetter("a value is no arrival")
        new = {}
        for value in told:
            there = self._now.by_mark.get(value[0], new.get(value[0], value))
            if there != value:
                raise InvalidOperation("two unlike arrivals have one mark")
            if value[0] not in self._now.by_mark:
                new[value[0]] = value
        if new:
            self._do(self._now.with_new(list(new.values())), tuple(new.values()))
        return len(new)

    def use(self, rule):
        """Go by this rule, and tell the version."""
        check_rule(rule)
        if rule != self._now.reader:
            self._do(Letters(rule, self._now.by_mark), ())
        return self.version

    def __getitem__(self, at):
        self._check(at)
        return self._now.by_mark[at]

    def shown(self, mark):
        """The mark beneath which a letter is shown, or None."""
        self._check(mark)
        return self._now.beneath[mark]

    def below(self, mark):
        """The ascending tuple of the letters that are shown beneath a letter."""
        self._check(mark)
        binders = self._now.binders.get(mark, ())
        return tuple(sorted([binder for binder in binders if self._now.beneath[binder] == mark]))

    def are_together(self, first, second):
        """Whether two letters are together."""
        self._check(first)
        self._check(second)
        return self._now.group[first][0] == self._now.group[second][0]

    def chain(self, first, second):
        """Of the shortest rows of neighbours from one letter to another one the least tuple; None without one."""
        self._check(first)
        self._check(second)
        return least_chain(self._now.reader.sees_lost, self._now.tied, self._now.binders, first, second)

    def moves(self, mark):
        """How many deeds since a letter came have changed the mark beneath which it is shown."""
        self._check(mark)
        return len([deed for deed in self._history.done if mark in deed[2]])

    def undo(self, *, many=1):
        """Take back the last deeds, and tell the version."""
        self._history = self._history.taken_back(many)
        if many:
            self._go_back()
        return self.version

    def redo(self, *, many=1):
        """Do deeds again that were taken back, and tell the version."""
        self._history = self._history.done_again(many)
        if many:
            self._go_back()
        return self.version

    def trial(self):
        """A block that gives this inbox, and behind which it is as before."""
        return Trial(self)

    def attempt(self, action):
        """What an action returns that is called with this inbox in such a block."""
        with self.trial() as same:
            return action(same)

    def twin(self):
        """An independent inbox that is equal in all that is told."""
        other = Inbox(self._first)
        other._history = self._history
        other._now = self._now
        return other

    def __len__(self):
        return len(self._now.order)

    def __contains__(self, x):
        return is_mark(x) and x in self._now.by_mark

    def __iter__(self):
        return iter(self._now.order)

    def __eq__(self, other):
        if not isinstance(other, Inbox):
            return False
        return self._now.reader == other._now.reader and self._now.by_mark == other._now.by_mark

    def __str__(self):
        return f"inbox of {len(self._now.order)} letters, {len(self.groups)} groups"

    def _check(self, mark):
        """Raise UnknownName for what is no mark of a letter that is here."""
        if not is_mark(mark) or mark not in self._now.by_mark:
            raise UnknownName(mark)

    def _do(self, letters, new):
        """Do a deed: keep the rule behind it, what is new, and the letters that it moved."""
        self._history = self._history.with_deed((letters.reader, new, letters.moved_since(self._now)))
        self._now = letters

    def _go_back(self):
        """Be again as the deeds in effect tell."""
        rule = self._first
        by_mark = {}
        for reader, new, _ in self._history.done:
            rule = reader
            for value in new:
                by_mark[value[0]] = value
        self._now = Letters(rule, by_mark)


def check_inbox(value):
    """Raise InvalidOperation for what is no inbox."""
    if not isinstance(value, Inbox):
        raise InvalidOperation("the value is no inbox")
