"""What is known of a list by its length: which places of it are handed on, and which ones are bound."""

from namedabove.base.cutters import MAX_FRONT, REACH, cut
from namedabove.base.names import is_mark_below
from namedabove.talk.bundles import list_behind
from namedabove.walk.kinds import Kinds
from namedabove.walk.paths import all_paths

# The length of all lists that have more marks than a pattern reaches.
MANY = REACH + 1


def length_of(row):
    """The number of values of a row, or 6 for more than five."""
    return min(len(row), MANY)


def place_of(at, many):
    """The place of the mark at this index of a list of so many."""
    if many <= REACH or at < MAX_FRONT:
        return at
    return max(MAX_FRONT, at - many + MANY)


def row_of(length):
    """The places of a list of this length; here the one between stands for one mark."""
    return tuple(range(length))


def row_behind(turn, length):
    """The list of a letter that is written with a turn upon one whose list has this length.

    Each mark stands as its place there, and that of the letter that is written upon as this length.
    """
    return list_behind(turn, row_of(length), length)


def throughs(company, rule):
    """For each of the people the cutter that keeps of a list what is bound."""
    return {person: rule.through(company, person) for person in company}


def bound_places(through, base):
    """The tuple of the places that a letter with this base binds."""
    person, length = base
    return cut(through[person], row_of(length))


def is_length(value):
    """Whether the value is the length of a list, 6 for more than five."""
    return is_mark_below(value, MANY + 1)


def is_base(company, value):
    """Whether the value is a pair of one of the people and of a length."""
    if not isinstance(value, tuple) or len(value) != 2:
        return False
    return value[0] in company.people and is_length(value[1])


class Bases:
    """The rows that the turns of a company make of lists, each reckoned once."""

    def __init__(self, company):
        self._company = company
        self._kinds = Kinds(company)
        self._rows = {}

    def begins(self):
        """The bases of letters upon none, each with the writer, and that it begins a talk."""
        return [((person, 0), person, True) for person in self._company.starts]

    def rows_upon(self, base):
        """The triples (writer, whether it is a taking, row) for the letters upon one with this base."""
        person, length = base
        return [
            (writer, takes, self._row(kind, length)) for writer, takes, kind in self._kinds.by_person[person]
        ]

    def steps(self, base):
        """The bases of the letters upon one with this base, each with its writer, and whether it begins a talk."""
        return [((writer, length_of(row)), writer, takes) for writer, takes, row in self.rows_upon(base)]

    def paths(self):
        """The shortest ways to all bases that letters of the company have."""
        return all_paths(self.begins(), lambda base: self.steps(base))

    def _row(self, kind, length):
        """The row that a turn makes of a list of this length."""
        if (kind, length) not in self._rows:
            self._rows[kind, length] = row_behind(self._kinds.turns[kind], length)
        return self._rows[kind, length]
