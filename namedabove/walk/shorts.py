"""Short forms of rows: triples (row, (), ()), or (first, between, last) for more than five integers."""

from namedabove.base.cutters import MAX_BACK, MAX_FRONT, REACH, cut
from namedabove.base.names import is_ascending, is_whole

# The colour of the marks of lost letters where the rule does not see them; rows between leave it out.
LOST = 2

NO_MARKS = ((), (), ())


def short_form(row):
    """The short form of a tuple of integers."""
    if len(row) <= REACH:
        return (row, (), ())
    return (row[:MAX_FRONT], tuple(sorted({number for number in row[MAX_FRONT:-MAX_BACK]})), row[-MAX_BACK:])


def without_lost(short):
    """A short form of colours without that of lost letters between the first and the last ones."""
    row, between, last = short
    return (row, tuple([colour for colour in between if colour != LOST]), last) if LOST in between else short


def all_kept(cutter, short):
    """The integers of a short form that a cutter keeps, those between perhaps as fewer than they are."""
    row, between, last = short
    if cutter.keeps_all:
        return row + between + last
    return cut(cutter, row + last)


def cut_short(cutter, short):
    """The short form of what a cutter keeps of a row with this short form."""
    if cutter.keeps_all:
        return short
    row, _, last = short
    return (cut(cutter, row + last if last else row), (), ())


def one_longer(short, number):
    """The short form of a row with this short form and one more integer behind it."""
    row, between, last = short
    if len(row) < REACH and not last:
        return ((*row, number), (), ())
    if not last:
        return short_form((*row, number))
    moved = last[0]
    if moved not in between:
        between = tuple(sorted([*between, moved]))
    return (row, between, (*last[1:], number))


def short_behind(turn, short, own):
    """The short form of the list of a letter that is written with a turn upon one with this list.

    The mark of the letter that is written upon stands there as this integer.
    """
    road, adds, cutter = turn
    short = cut_short(road, short)
    if adds:
        short = one_longer(short, own)
    return cut_short(cutter, short)


def colours_behind(turn, short, own):
    """The short form of the colours of the list of a letter that is written with a turn upon one with these."""
    return without_lost(short_behind(turn, short, own))


def is_row_of(value, numbers):
    """Whether the value is a tuple of some of these integers."""
    return isinstance(value, tuple) and all([is_whole(number) and number in numbers for number in value])


def is_short(value, numbers, left_out=None):
    """Whether the value is the short form of some row of these integers, where one can be left out between."""
    if not isinstance(value, tuple) or len(value) != 3:
        return False
    row, between, last = value
    if not is_row_of(row, numbers) or not is_row_of(between, numbers) or not is_row_of(last, numbers):
        return False
    if last == ():
        return between == () and len(row) <= REACH
    if len(row) != MAX_FRONT or len(last) != MAX_BACK or not is_ascending(between):
        return False
    return between != () if left_out is None else left_out not in between
