"""Runs: states, each with the number of letters lost one after another that end with the letter."""

from namedabove.base.names import is_mark


class Runs:
    """Numbers for runs and for their heads, which tell the row of the letter that is written upon.

    The rows are kept small by what runs there are, so a way costs nothing but its letters.
    """

    def __init__(self, heads, most):
        self._heads = heads
        self._most = most
        self._base = most + 1

    def first(self):
        """The heads of letters upon none."""
        return [head * self._base for head in self._heads.first()]

    def states(self, head):
        """The list of pairs (run, 0) of the letters with this head; those with too long a row are left out."""
        head, row = divmod(head, self._base)
        found = []
        for state, loss in self._heads.states(head):
            if not loss:
                found.append((state * self._base, 0))
            elif row < self._most:
                found.append((state * self._base + row + 1, 0))
        return found

    def upon(self, run):
        """The heads of the letters that answer a letter with this run, and of those that take it."""
        state, row = divmod(run, self._base)
        answers, takings = self._heads.upon(state)
        base = self._base
        return [head * base + row for head in answers], [head * base + row for head in takings] if takings else []

    def is_end(self, run, people, colour):
        """Whether a letter of one of these people (by their numbers) comes with this run and colour."""
        return self._heads.is_end(run // self._base, people, colour)

    def number_of(self, person):
        """The number of a person."""
        return self._heads.number_of(person)

    def writer_of(self, run):
        """The name of the writer of a letter with this run."""
        return self._heads.writer_of(run // self._base)

    def loss(self, run):
        """1 for a run with which a letter is lost, otherwise 0."""
        return self._heads.loss(run // self._base)

    def told(self, run):
        """The pair (state, row) of a run."""
        state, row = divmod(run, self._base)
        return self._heads.told(state), row

    def run_of(self, value):
        """The number of a run that is told as a pair; None for what is no run that is possible."""
        if not isinstance(value, tuple) or len(value) != 2:
            return None
        told, row = value
        if not is_mark(row) or row > self._most:
            return None
        state = self._heads.state_of(told)
        if state is None or (row > 0) != (self._heads.loss(state) > 0):
            return None
        return state * self._base + row
