"""Views: how much of the list of a letter stands in the list of a letter below it."""

from namedabove.walk.bases import MANY, Bases, bound_places, is_base, row_of
from namedabove.walk.kinds import Kinds
from namedabove.walk.paths import all_paths
from namedabove.walk.shorts import all_kept, is_short, short_behind, short_form

# What stands for the marks of letters below the one that is looked at.
BELOW = MANY + 1


class Views:
    """The views of a company, each short form reckoned once."""

    def __init__(self, company):
        self._kinds = Kinds(company)
        self._bases = Bases(company)
        self._shorts = {}

    def bases(self):
        """The shortest ways to all bases that letters of the company have."""
        return self._bases.paths()

    def bases_upon(self, base):
        """The bases of the letters upon one with this base."""
        return [near for near, _, _ in self._bases.steps(base)]

    def first(self, base):
        """The views of a letter with this base from those upon it, each with writer, and whether it begins a talk."""
        return [
            ((base, writer, short_form(row)), writer, takes) for writer, takes, row in self._bases.rows_upon(base)
        ]

    def steps(self, view):
        """The views from the letters upon the lower letter, each with its writer, and whether it begins a talk."""
        base, person, short = view
        found = []
        for writer, takes, kind in self._kinds.by_person[person]:
            if (kind, short) not in self._shorts:
                self._shorts[kind, short] = short_behind(self._kinds.turns[kind], short, BELOW)
            found.append(((base, writer, self._shorts[kind, short]), writer, takes))
        return found

    def views(self, base):
        """The shortest ways to all views of a letter with this base."""
        return all_paths(self.first(base), lambda view: self.steps(view))


def is_view(company, value):
    """Whether the value has the form of a view, whether or not some letter gives it."""
    if not isinstance(value, tuple) or len(value) != 3:
        return False
    base, person, short = value
    if not is_base(company, base) or person not in company.people:
        return False
    return is_short(short, (*row_of(base[1] + 1), BELOW))


def as_bits(places):
    """The places as the bits of one integer."""
    bits = 0
    for place in places:
        bits = bits | (1 << place)
    return bits


class Reading:
    """What a rule binds, and whether two letters are neighbours by it when only they came."""

    def __init__(self, through, sees_lost):
        self._through = through
        self._sees_lost = sees_lost

    def of_base(self, base):
        """The bits of the places that a letter with this base binds."""
        return as_bits(bound_places(self._through, base))

    def of_view(self, view):
        """The bits of the places that the lower letter of a view binds, without the marks below the upper one."""
        _, person, short = view
        return as_bits([place for place in all_kept(self._through[person], short) if place != BELOW])

    def do_meet(self, one, other):
        """Whether two letters meet that bind these places of a letter at which their ways part."""
        return self._sees_lost and (one & other) > 0

    def meets(self, base, upper, lower):
        """Whether the lower letter, which binds these places, meets the upper one, which binds those."""
        return (lower & (1 << base[1])) > 0 or self.do_meet(upper, lower)
