"""What cutters do, told once more straight from the words of [0.7], to compare with."""

from itertools import product

FRONTS = [*("".join(signs) for many in range(3) for signs in product("+-", repeat=many))]
BACKS = [*("".join(signs) for many in range(4) for signs in product("+-", repeat=many))]
PATTERNS = [front + ".." + back for front in FRONTS for back in BACKS]
PARTS = ["all", *PATTERNS]

# Parts that do different things, to be combined with one another.
SOME_PARTS = ("all", "..", "+..", "-+..", "..+", "..+-", "..-+-", "++..+++", "+-..-++", "-+..+-+", "+..-++", "..+++")


def kept_by_part(part, row):
    """The values of a list that a part keeps."""
    if part == "all":
        return row
    front, back = part.split("..")
    plus = {at for at, sign in enumerate(front) if sign == "+"}
    plus |= {len(row) - 1 - at for at, sign in enumerate(reversed(back)) if sign == "+"}
    return [value for at, value in enumerate(row) if at in plus]


def kept_by_parts(parts, row):
    """The tuple of the values that all parts leave."""
    row = list(row)
    for part in parts:
        row = kept_by_part(part, row)
    return tuple(row)


def plain_places(parts, many):
    return kept_by_parts(parts, range(many))
