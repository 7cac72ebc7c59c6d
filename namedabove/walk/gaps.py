"""Gaps: which letters of its own talk above a letter are none of some marks of its way."""

from namedabove.base.cutters import MAX_FRONT
from namedabove.base.names import is_mark_below
from namedabove.walk.kinds import Kinds
from namedabove.walk.shorts import NO_MARKS, is_short, one_longer

# The bits of marks: no letter of the own talk is left out behind the mark, one is, and the mark is of another talk.
WHOLE = 0
GAP = 1
OTHER = 2


def with_gap(lead, bits):
    """The gaps when a letter of the own talk behind these marks is none of them."""
    if bits and bits[-1] != OTHER:
        return lead, (*bits[:-1], GAP)
    return 1, bits


def cut_gaps(cutter, lead, short):
    """The gaps of what a cutter keeps of marks with these gaps, the bits in short form."""
    if cutter.keeps_all:
        return lead, short
    row, between, last = short
    places = cutter.places(len(row) + len(last))
    bits = ()
    for at, bit in enumerate(row + last):
        if last and at == MAX_FRONT and between != (OTHER,):
            lead, bits = with_gap(lead, bits)
        if at in places:
            bits = (*bits, bit)
        elif bit != OTHER:
            lead, bits = with_gap(lead, bits)
    return lead, (bits, (), ())


def hidden(lead, short):
    """The gaps behind a letter that was answered without its mark."""
    row, between, last = short
    if not last:
        lead, row = with_gap(lead, row)
    else:
        lead, last = with_gap(lead, last)
    return lead, (row, between, last)


def all_others(short):
    """The short form when all these marks are of another talk."""
    row, between, last = short
    return tuple([OTHER for _ in row]), (OTHER,) if between else (), tuple([OTHER for _ in last])


def gaps_behind(turn, lead, short, takes):
    """The gaps of the list of a letter that is written with a turn upon one with these gaps."""
    road, adds, cutter = turn
    if takes:
        # The new talk has no letters yet, so nothing of it is left out.
        lead, short = 0, all_others(short)
    lead, short = cut_gaps(road, lead, short)
    if adds:
        short = one_longer(short, OTHER if takes else WHOLE)
    elif not takes:
        lead, short = hidden(lead, short)
    return cut_gaps(cutter, lead, short)


def bits_in(short):
    """The different bits of marks with this short form, one of each between, in order but for those between."""
    row, between, last = short
    return [*row, *[bit for bit in between if bit == OTHER], *[bit for bit in between if bit != OTHER], *last]


def is_gap_state(company, value):
    """Whether the value has the form of a gap state, whether or not some letter has it."""
    if not isinstance(value, tuple) or len(value) != 3:
        return False
    person, lead, short = value
    if person not in company.people or not is_mark_below(lead, 2) or not is_short(short, (WHOLE, GAP, OTHER)):
        return False
    bits = bits_in(short)
    return all([bits[at] == OTHER or bits[at + 1] != OTHER for at in range(len(bits) - 1)])


class Gaps:
    """How the gap states of letters of a company follow one another, each step reckoned once."""

    def __init__(self, company):
        self._company = company
        self._kinds = Kinds(company)
        self._behind = {}

    def begins(self):
        """The gap states of letters upon none, each with the writer, and that it begins a talk."""
        return [((person, 0, NO_MARKS), person, True) for person in self._company.starts]

    def steps(self, state):
        """The gap states of the letters upon one, each with its writer, and whether it begins a talk."""
        person, lead, short = state
        found = []
        for writer, takes, kind in self._kinds.by_person[person]:
            key = (kind, takes, lead, short)
            if key not in self._behind:
                self._behind[key] = gaps_behind(self._kinds.turns[kind], lead, short, takes)
            found.append(((writer, *self._behind[key]), writer, takes))
        return found
