"""Right places: whether letters are shown beneath the letters where they belong."""

from namedabove.base.companies import check_company
from namedabove.base.names import is_ascending
from namedabove.read.lots import Lot, shown
from namedabove.read.rules import check_rule
from namedabove.talk.bundles import Bundle
from namedabove.walk.bases import Bases, bound_places, throughs
from namedabove.walk.gaps import GAP, WHOLE, Gaps, bits_in, cut_gaps, is_gap_state
from namedabove.walk.paths import all_paths, with_path

RIGHT = "right"
WRONG = "wrong"
MISSED = "missed"


def find_wrong(company, rule):
    """A lot with few letters and a letter whose place is wrong there, or gap states that show that there is none."""
    return find_place(company, rule, WRONG)


def find_missed(company, rule):
    """A lot with few letters and a letter whose place is missed there, or gap states that show that there is none."""
    return find_place(company, rule, MISSED)


def is_wrong_paper(company, rule, value):
    """Whether the value is such a lot with its letter, or such gap states, whoever made them."""
    return is_place_paper(company, rule, value, WRONG)


def is_missed_paper(company, rule, value):
    """Whether the value is such a lot with its letter, or such gap states, whoever made them."""
    return is_place_paper(company, rule, value, MISSED)


def are_shown_alike(company, one, other):
    """Whether two rules show all letters alike in all lots of the company."""
    check_company(company)
    check_rule(one)
    check_rule(other)
    here, there = throughs(company, one), throughs(company, other)
    return all([bound_places(here, base) == bound_places(there, base) for base in Bases(company).paths()])


def places_in(rule, lot):
    """A dict from the marks that came to what the place is in which each letter is shown."""
    beneath = shown(rule, lot)
    places = {}
    for mark in beneath:
        belongs = above_in(lot, mark)
        if beneath[mark] == belongs:
            places[mark] = RIGHT
        else:
            places[mark] = MISSED if beneath[mark] is None else WRONG
    return places


def above_in(lot, mark):
    """The nearest letter of the way and the talk of a letter that came; None without one."""
    letters = lot.bundle.letters
    while not letters[mark][2]:
        mark = letters[mark][1]
        if mark in lot:
            return mark
    return None


def find_place(company, rule, word):
    """A lot with few letters and a letter in such a place, or gap states that show that there is none."""
    check_company(company)
    check_rule(rule)
    gaps = Gaps(company)
    paths = all_paths(gaps.begins(), lambda state: gaps.steps(state))
    through = throughs(company, rule)
    for state in paths:
        if has_place(through, state, word):
            bundle = Bundle.of_many(company, tuple(with_path([], paths, state, None)))
            mark = len(bundle) - 1
            return ("lot", Lot(bundle, came_for(rule, bundle, mark, word)), mark)
    return ("never", tuple(sorted(list(paths))))


def has_place(through, state, word):
    """Whether a letter with this gap state is in such a place in some lot."""
    person, lead, short = state
    lead, short = cut_gaps(through[person], lead, short)
    bits = bits_in(short)
    if word == WRONG:
        return any([bit != WHOLE for bit in bits])
    return lead == 1 or GAP in bits


def came_for(rule, bundle, mark, word):
    """The two or three letters that came in a lot in which the place of a letter is such."""
    bound = rule.bound(bundle, mark)
    own = [above for above in bundle.way_of(mark) if above >= bundle.talk_of(mark)]
    missing = [above for above in own if above not in bound]
    if word == MISSED:
        return (missing[-1], mark)
    others = [above for above in bound if above not in own]
    if others:
        return (others[-1], mark)
    beneath = [above for above in bound if above < missing[-1]]
    return (beneath[-1], missing[-1], mark)


def is_place_paper(company, rule, value, word):
    """Whether the value is a lot and a letter in such a place, or gap states that show that there is none."""
    check_company(company)
    check_rule(rule)
    if not isinstance(value, tuple) or value == ():
        return False
    kind, *rest = value
    if kind == "lot":
        return len(rest) == 2 and is_in_place(company, rule, word, *rest)
    if kind != "never" or len(rest) != 1 or not is_state_tuple(company, rest[0]):
        return False
    through = throughs(company, rule)
    states = {state: True for state in rest[0]}
    if any([has_place(through, state, word) for state in states]):
        return False
    gaps = Gaps(company)
    if not all([state in states for state, _, _ in gaps.begins()]):
        return False
    return all([near in states for state in states for near, _, _ in gaps.steps(state)])


def is_in_place(company, rule, word, lot, mark):
    """Whether the values are a lot of the company, and a letter that is in such a place there."""
    if not isinstance(lot, Lot) or lot.bundle.company != company or mark not in lot:
        return False
    return places_in(rule, lot)[mark] == word


def is_state_tuple(company, value):
    """Whether the value is an ascending tuple of gap states."""
    if not isinstance(value, tuple) or not all([is_gap_state(company, state) for state in value]):
        return False
    return is_ascending(value)
