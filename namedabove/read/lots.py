"""Lots: bundles of which some letters came, and what a reader makes of these."""

from namedabove.base.names import is_mark, is_marks_below, is_whole
from namedabove.errors import InvalidLot, UnknownName
from namedabove.read.bonds import all_groups, are_near, binders_of, chain_between, near_of, spread
from namedabove.read.rules import check_rule
from namedabove.talk.bundles import check_bundle, check_mark


class Lot:
    """A bundle and the marks of those of its letters that came; it never changes."""

    def __init__(self, bundle, came):
        check_bundle(bundle)
        if not is_marks_below(came, len(bundle)):
            raise InvalidLot("what came is no ascending tuple of marks of the bundle")
        here = {mark: True for mark in came}
        self._bundle = bundle
        self._came = came
        self._here = here
        self._lost = tuple([mark for mark in range(len(bundle)) if mark not in here])

    @property
    def bundle(self):
        """The bundle of all letters."""
        return self._bundle

    @property
    def came(self):
        """The ascending tuple of the marks of the letters that came."""
        return self._came

    @property
    def lost(self):
        """The ascending tuple of the marks of the letters that did not come."""
        return self._lost

    def with_come(self, mark):
        """The lot in which this letter came, too."""
        check_mark(self._bundle, mark)
        came = self._came if mark in self._here else tuple(sorted([*self._came, mark]))
        return Lot(self._bundle, came)

    def with_lost(self, mark):
        """The lot in which this letter is lost, too."""
        check_mark(self._bundle, mark)
        return Lot(self._bundle, tuple([other for other in self._came if other != mark]))

    def __contains__(self, x):
        return is_whole(x) and x in self._here

    def __len__(self):
        return len(self._lost)

    def __eq__(self, other):
        if not isinstance(other, Lot):
            return False
        return self._bundle == other._bundle and self._came == other._came

    def __str__(self):
        return f"lot of {len(self._bundle)} letters, {len(self._lost)} lost"


def check_lot(value):
    """Raise InvalidLot for what is no lot."""
    if not isinstance(value, Lot):
        raise InvalidLot("the value is no lot")


def check_reading(rule, lot):
    """Raise the error of the first of both that is none."""
    check_rule(rule)
    check_lot(lot)


def check_came(lot, mark):
    """Raise UnknownName for what is no mark of a letter that came."""
    if mark not in lot:
        raise UnknownName(mark)


def check_both(rule, lot, first, second):
    """Raise the error of the first of these that is none."""
    check_reading(rule, lot)
    check_came(lot, first)
    check_came(lot, second)


def bound_marks(rule, lot):
    """The bound marks of each letter that came."""
    return {mark: rule.bound(lot.bundle, mark) for mark in lot.came}


def groups(rule, lot):
    """The tuple of the groups of letters that are together, ordered by their first marks."""
    check_reading(rule, lot)
    return all_groups(rule.sees_lost, bound_marks(rule, lot))


def together(rule, lot, first, second):
    """Whether two letters that came are together."""
    check_both(rule, lot, first, second)
    bound = bound_marks(rule, lot)
    return second in spread(rule.sees_lost, bound, binders_of(bound), first)


def neighbours(rule, lot, mark):
    """The ascending tuple of the neighbours of a letter that came."""
    check_reading(rule, lot)
    check_came(lot, mark)
    bound = bound_marks(rule, lot)
    return near_of(rule.sees_lost, bound, binders_of(bound), mark)


def chain(rule, lot, first, second):
    """A shortest row of neighbours from the first letter to the second one; None if they are apart."""
    check_both(rule, lot, first, second)
    return chain_between(rule.sees_lost, bound_marks(rule, lot), first, second)


def is_chain(rule, lot, first, second, value):
    """Whether the value is a row of neighbours from the first letter to the second one."""
    check_both(rule, lot, first, second)
    if not isinstance(value, tuple) or value == () or not all([mark in lot for mark in value]):
        return False
    if value[0] != first or value[-1] != second or len({mark for mark in value}) != len(value):
        return False
    bound = bound_marks(rule, lot)
    return all([are_near(rule.sees_lost, bound, value[at], value[at + 1]) for at in range(len(value) - 1)])


def coloured(rule, lot):
    """The tuple of the marks that have a colour."""
    return tuple(range(len(lot.bundle))) if rule.sees_lost else lot.came


def colours(rule, lot, first, second):
    """Colours that show that the first letter, 0, and the second one, 1, are apart; None if they are together."""
    check_both(rule, lot, first, second)
    bound = bound_marks(rule, lot)
    group = spread(rule.sees_lost, bound, binders_of(bound), first)
    if second in group:
        return None
    zero = {mark: True for letter in group for mark in (letter, *bound[letter])}
    return {mark: 0 if mark in zero else 1 for mark in coloured(rule, lot)}


def are_colours(value, marks):
    """Whether the value is a dict from just these marks to 0 and 1."""
    if not isinstance(value, dict) or len(value) != len(marks):
        return False
    if not all([is_mark(mark) and is_whole(value[mark]) and value[mark] in (0, 1) for mark in value]):
        return False
    return all([mark in value for mark in marks])


def is_colouring(rule, lot, first, second, value):
    """Whether the value is such a dict of colours, whoever made it."""
    check_both(rule, lot, first, second)
    if not are_colours(value, coloured(rule, lot)) or value[first] != 0 or value[second] != 1:
        return False
    bound = bound_marks(rule, lot)
    return all([
        value[mark] == value[letter] for letter in bound for mark in bound[letter] if mark in value
    ])


def shown(rule, lot):
    """A dict from the marks that came to the mark beneath which each letter is shown, or None."""
    check_reading(rule, lot)
    beneath = {}
    for mark in lot.came:
        above = [other for other in rule.bound(lot.bundle, mark) if other in lot]
        beneath[mark] = above[-1] if above else None
    return beneath


def row_of_losses(lot, mark):
    """The greatest number of lost letters one after another on the way of a letter."""
    check_lot(lot)
    check_mark(lot.bundle, mark)
    longest = row = 0
    for above in lot.bundle.way_of(mark):
        row = 0 if above in lot else row + 1
        longest = max(longest, row)
    return longest
