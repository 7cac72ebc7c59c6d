"""Cutters: which places of a row are kept."""

from namedabove.base.names import is_whole
from namedabove.errors import InvalidCutter, InvalidNumber, InvalidOperation, TooMany

MAX_PARTS = 4
MAX_ROW = 1000

KEEP_ALL = "all"
DOTS = ".."
MAX_FRONT = 2
MAX_BACK = 3

# The places that a pattern can speak of (2 + 3): of a longer row it keeps what it keeps of five.
REACH = 5


def is_part(value):
    """Whether the value is a part of a cutter: all, or a pattern."""
    if not isinstance(value, str):
        return False
    if value == KEEP_ALL:
        return True
    front, dots, back = value.partition(DOTS)
    if dots != DOTS or len(front) > MAX_FRONT or len(back) > MAX_BACK:
        return False
    return all([sign in ("+", "-") for sign in front + back])


def check_parts(parts):
    """Raise InvalidCutter for the first value that no cutter can have as a part."""
    for at, part in enumerate(parts):
        if at >= MAX_PARTS:
            raise InvalidCutter(f"more than {MAX_PARTS} parts")
        if not is_part(part):
            raise InvalidCutter(f"the value at {at} is no part of a cutter")


def has_plus(signs, at):
    """Whether there is a plus at this index; below 0 and behind the end there is no sign."""
    return 0 <= at < len(signs) and signs[at] == "+"


def part_places(part, many):
    """The places that one part keeps of a row of so many."""
    if part == KEEP_ALL:
        return list(range(many))
    front, _, back = part.partition(DOTS)
    ahead = many - len(back)
    return [at for at in range(many) if has_plus(front, at) or has_plus(back, at - ahead)]


def kept_places(parts, many):
    """The places of a row of so many that are left when all parts were used one after another."""
    places = list(range(many))
    for part in parts:
        places = [places[at] for at in part_places(part, len(places))]
    return tuple(places)


def keep_all(parts):
    """Whether parts used one after another keep all of every row."""
    return all([part == KEEP_ALL for part in parts])


def table_of(parts):
    """The kept places of rows of 0 to 6.

    One place more than patterns reach tells a pattern from what keeps all: so these rows tell what
    the cutter does to every row, and cutters with the same table are alike.
    """
    return tuple([kept_places(parts, many) for many in range(REACH + 2)])


class Cutter:
    """Keeps some places of a row and drops the others; it never changes."""

    def __init__(self, *parts):
        check_parts(parts)
        self._parts = parts
        self._table = table_of(parts)
        self._keeps_all = keep_all(parts)

    @classmethod
    def of(cls, parts):
        """The cutter with the parts of a tuple."""
        if not isinstance(parts, tuple):
            raise InvalidCutter("the parts are no tuple")
        return cls(*parts)

    @classmethod
    def of_any(cls, parts):
        """The cutter with a tuple of what is known to be parts; here there can be more than four."""
        cutter = cls()
        cutter._parts = parts
        cutter._table = table_of(parts)
        cutter._keeps_all = keep_all(parts)
        return cutter

    @property
    def parts(self):
        """The tuple of the parts."""
        return self._parts

    @property
    def keeps_all(self):
        """Whether all of every row is kept."""
        return self._keeps_all

    def __call__(self, row):
        """The tuple of the kept values of a tuple."""
        if not isinstance(row, tuple) or len(row) > MAX_ROW:
            raise InvalidOperation(f"the row is no tuple of at most {MAX_ROW} values")
        return tuple([row[at] for at in self.places(len(row))])

    def places(self, many):
        """The ascending tuple of the kept places of a row of so many."""
        if not is_whole(many) or not 0 <= many <= MAX_ROW:
            raise InvalidNumber(many)
        if many <= REACH:
            return self._table[many]
        if self.keeps_all:
            return tuple(range(many))
        between = many - REACH
        return tuple([at if at < MAX_FRONT else at + between for at in self._table[REACH]])

    def places_of_few(self, many):
        """The same for what is known to be a number of up to five."""
        return self._table[many]

    def __rshift__(self, other):
        """The cutter that does first what this one does, then what the other one does."""
        check_cutter(other)
        parts = self._parts + other._parts
        if len(parts) > MAX_PARTS:
            raise TooMany(MAX_PARTS)
        return Cutter(*parts)

    def is_within(self, other):
        """Whether this cutter keeps, of every row, only places that the other one keeps."""
        check_cutter(other)
        return all([place in there for here, there in zip(self._table, other._table) for place in here])

    def parting(self, other):
        """The least number of places for which the two are not alike, with the first such place."""
        check_cutter(other)
        for many, (here, there) in enumerate(zip(self._table, other._table)):
            for place in range(many):
                if (place in here) != (place in there):
                    return many, place
        return None

    def __len__(self):
        return len(self._parts)

    def __eq__(self, other):
        return isinstance(other, Cutter) and self._table == other._table

    def __str__(self):
        return " > ".join(self._parts or (KEEP_ALL,))


def check_cutter(value):
    """Raise InvalidCutter for what is no cutter."""
    if not isinstance(value, Cutter):
        raise InvalidCutter("the value is no cutter")


def cut(cutter, row):
    """The tuple of the values of a tuple that a cutter keeps, of a row of any length."""
    if cutter.keeps_all:
        return row
    if len(row) > REACH:
        row = row[:MAX_FRONT] + row[-MAX_BACK:]
    places = cutter.places_of_few(len(row))
    return row if len(places) == len(row) else tuple([row[at] for at in places])
