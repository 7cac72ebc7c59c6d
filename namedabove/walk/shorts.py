"""Short forms of rows: triples (row, (), ()), or (first, between, last) for more than five integers."""

from namedabove.base.cutters import MAX_BACK, MAX_FRONT, REACH, cut
from namedabove.base.names import is_ascending, is_whole

# The colour of the marks of lost letters where the rule does not see them; rows between leave it out.
LOST = 2

NO_MARKS = ((), (), ())


def short_form(row):
    """The short form of a tuple of integers."""
    if len(row) <= REACH:
        return (row, (), ())
    return (row[:MAX_FRONT], tuple(sorted({number for number in row[MAX_FRONT:-MAX_BACK]})), row[-MAX_BACK:])


def colour_form(row):
    """The short form of a tuple of colours."""
    first, between, last = short_form(row)
    return (first, tuple([colour for colour in between if colour != LOST]), last)


def all_kept(cutter, short):
    """The colours of a short form that a cutter keeps, those between perhaps as fewer than they are."""
    row, between, last = short
    if cutter.keeps_all:
        return row + between + last
    return cut(cutter, row + last)


def cut_short(cutter, short):
    """The short form of what a cutter keeps of a row of colours with this short form."""
    if cutter.keeps_all:
        return short
    row, _, last = short
    return (cut(cutter, row + last), (), ())


def one_longer(short, colour):
    """The short form of a row of colours with this short form and one more colour behind it."""
    row, between, last = short
    if not last:
        return colour_form((*row, colour))
    moved = last[0]
    if moved != LOST and moved not in between:
        between = tuple(sorted([*between, moved]))
    return (row, between, (*last[1:], colour))


def short_behind(turn, short, own):
    """The short form of the list of a letter that is written with a turn upon one of this colour and list."""
    road, adds, cutter = turn
    short = cut_short(road, short)
    if adds:
        short = one_longer(short, own)
    return cut_short(cutter, short)


def is_colours(value, top):
    """Whether the value is a tuple of integers from 0 to the top."""
    return isinstance(value, tuple) and all([is_whole(colour) and 0 <= colour <= top for colour in value])


def is_short(value, top):
    """Whether the value is the short form of some row of colours from 0 to the top."""
    if not isinstance(value, tuple) or len(value) != 3:
        return False
    row, between, last = value
    if not is_colours(row, top) or not is_colours(between, 1) or not is_colours(last, top):
        return False
    if not last:
        return not between and len(row) <= REACH
    if len(row) != MAX_FRONT or len(last) != MAX_BACK or not is_ascending(between):
        return False
    return top == LOST or len(between) > 0
