"""The letters of an inbox: what is bound to them, beneath which they are shown, and with which they are together."""

from namedabove.base.cutters import cut
from namedabove.read.bonds import near_of


class Letters:
    """Arrivals under their marks, with what a rule makes of them; no one changes it."""

    def __init__(self, reader, by_mark):
        self.reader = reader
        self.by_mark = {}
        self.order = ()
        self.tied = {}
        self.binders = {}
        self.beneath = {}
        self.group = {}
        self._add([by_mark[mark] for mark in sorted(list(by_mark))])

    def with_new(self, arrivals):
        """These letters and new ones."""
        more = Letters(self.reader, {})
        more.by_mark = {**self.by_mark}
        more.tied = {**self.tied}
        more.binders = {**self.binders}
        more.beneath = {**self.beneath}
        more.group = {**self.group}
        more._add(arrivals)
        return more

    def moved_since(self, before):
        """A dict of the letters that are shown beneath another one than before, as far as they were there."""
        old = before.beneath
        return {mark: True for mark in old if old[mark] != self.beneath[mark]}

    def _add(self, arrivals):
        """Take new arrivals; only for letters that are just made."""
        for arrival in arrivals:
            mark, _, copy = arrival
            self.by_mark[mark] = arrival
            self.tied[mark] = cut(self.reader.cutter, copy)
            for other in self.tied[mark]:
                self.binders[other] = (*self.binders.get(other, ()), mark)
        for mark, _, _ in arrivals:
            above = [other for other in self.tied[mark] if other in self.by_mark]
            self.beneath[mark] = above[-1] if above else None
            for binder in self.binders.get(mark, ()):
                # Who was shown beneath a lesser mark, or beneath none, is shown beneath this one.
                if binder in self.beneath and (self.beneath[binder] is None or self.beneath[binder] < mark):
                    self.beneath[binder] = mark
            self._join(mark)
        self.order = tuple(sorted(list(self.by_mark)))

    def _join(self, mark):
        """Put a letter together with its neighbours, as far as these have a group."""
        near = near_of(self.reader.sees_lost, self.tied, self.binders, mark)
        parts = {self.group[other][0]: self.group[other] for other in near if other in self.group}
        joined = tuple(sorted([mark, *[other for part in parts.values() for other in part]]))
        for other in joined:
            self.group[other] = joined
