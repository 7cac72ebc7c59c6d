"""What inboxes and desks share: deeds that can be taken back, and blocks behind which all is as it was."""

from namedabove.base.names import is_mark
from namedabove.errors import InvalidNumber, NothingToUndo


class History:
    """The deeds in effect, and those that were taken back, the next one to be done again first; it never changes."""

    def __init__(self, done, undone):
        self.done = done
        self.undone = undone

    def with_deed(self, deed):
        """The history behind a new deed, which forgets those that were taken back."""
        return History((*self.done, deed), ())

    def taken_back(self, many):
        """The history without the last deeds."""
        check_deeds(many, self.done)
        rest = len(self.done) - many
        return History(self.done[:rest], self.done[rest:] + self.undone)

    def done_again(self, many):
        """The history with the next of the deeds that were taken back."""
        check_deeds(many, self.undone)
        return History(self.done + self.undone[:many], self.undone[many:])


def check_deeds(many, deeds):
    """Raise InvalidNumber for what is no number, or NothingToUndo for more than there are deeds."""
    if not is_mark(many):
        raise InvalidNumber(many)
    if many > len(deeds):
        raise NothingToUndo(many)


class Kept:
    """What an inbox or a desk was at the beginning of a block, and what was kept for the block around it."""

    def __init__(self, history, now, around):
        self.history = history
        self.now = now
        self.around = around


class Trial:
    """A block behind which an inbox or a desk is as it was before."""

    def __init__(self, box):
        self._box = box
        self._kept = None

    def __enter__(self):
        self._kept = Kept(self._box._history, self._box._now, self._kept)
        return self._box

    def __exit__(self, kind, value, trace):
        self._box._history = self._kept.history
        self._box._now = self._kept.now
        self._kept = self._kept.around
