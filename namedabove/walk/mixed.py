"""Two talks as one: whether letters of unlike talks can ever be together."""

from namedabove.base.companies import check_company
from namedabove.base.names import is_ascending, is_mark_below
from namedabove.read.lots import Lot, check_reading, groups, together
from namedabove.read.rules import check_rule
from namedabove.talk.bundles import Bundle
from namedabove.walk.bases import Bases, bound_places, is_length, length_of, place_of, throughs
from namedabove.walk.paths import all_paths, path_to, with_path


def find_mixed(company, rule):
    """A lot with few letters in which letters of two talks are together, or the traces that show that there is none."""
    check_company(company)
    check_rule(rule)
    bases = Bases(company)
    begins = [((person, length, length, True), *letter) for (person, length), *letter in bases.begins()]
    paths = all_paths(begins, lambda trace: traces_upon(bases, trace))
    through = throughs(company, rule)
    for trace in paths:
        if is_mixing_trace(through, trace):
            return lot_of(company, paths, trace)
    return ("never", tuple(sorted(list(paths))))


def is_mixing(company, rule):
    """Whether there is a lot in which letters of two talks are together."""
    return find_mixed(company, rule)[0] == "lot"


def is_mixed_paper(company, rule, value):
    """Whether the value is such a lot with its letters, or such traces, whoever made them."""
    check_company(company)
    check_rule(rule)
    if not isinstance(value, tuple) or value == ():
        return False
    word, *rest = value
    if word == "lot":
        return len(rest) == 3 and are_mixed(company, rule, *rest)
    if word != "never" or len(rest) != 1 or not is_trace_tuple(company, rest[0]):
        return False
    through = throughs(company, rule)
    traces = {trace: True for trace in rest[0]}
    if any([is_mixing_trace(through, trace) for trace in traces]):
        return False
    bases = Bases(company)
    if not all([(person, 0, 0, True) in traces for person in company.starts]):
        return False
    return all([step in traces for trace in traces for step, _, _ in traces_upon(bases, trace)])


def mixed_pairs(rule, lot):
    """The ascending tuple of the pairs of letters of unlike talks that are together in a lot."""
    check_reading(rule, lot)
    talks = {mark: lot.bundle.talk_of(mark) for mark in lot.came}
    found = []
    for group in groups(rule, lot):
        for at, first in enumerate(group):
            found.extend([(first, second) for second in group[at + 1:] if talks[first] != talks[second]])
    return tuple(sorted(found))


def is_own(trace):
    """Whether it is the trace of a letter at itself."""
    return trace[1] == trace[2]


def is_mixing_trace(through, trace):
    """Whether a letter binds the mark of which this is the trace, and that is of another talk."""
    person, length, place, is_same = trace
    return not is_same and place in bound_places(through, (person, length))


def traces_upon(bases, trace):
    """The traces behind one more letter, each with the writer of this, and whether it begins a talk."""
    person, length, place, is_same = trace
    found = []
    for writer, takes, row in bases.rows_upon((person, length)):
        many = length_of(row)
        if place in row:
            found.append(((writer, many, place_of(row.index(place), len(row)), is_same and not takes), writer, takes))
        if is_own(trace):
            found.append(((writer, many, many, True), writer, takes))
    return found


def lot_of(company, paths, trace):
    """The lot of a shortest way to a trace of another talk, and the two letters that came."""
    path = path_to(paths, trace)
    first = max([at for at, near in enumerate(path) if is_own(near)])
    bundle = Bundle.of_many(company, tuple(with_path([], paths, trace, None)))
    return ("lot", Lot(bundle, (first, len(path) - 1)), first, len(path) - 1)


def are_mixed(company, rule, lot, first, second):
    """Whether the values are a lot of the company, and two letters of unlike talks that are together there."""
    if not isinstance(lot, Lot) or lot.bundle.company != company or first not in lot or second not in lot:
        return False
    if lot.bundle.talk_of(first) == lot.bundle.talk_of(second):
        return False
    return together(rule, lot, first, second)


def is_trace(company, value):
    """Whether the value has the form of a trace, whether or not some letter has it."""
    if not isinstance(value, tuple) or len(value) != 4:
        return False
    person, length, place, is_same = value
    if person not in company.people or not is_length(length) or not isinstance(is_same, bool):
        return False
    return is_mark_below(place, length + 1) and (is_same or place != length)


def is_trace_tuple(company, value):
    """Whether the value is an ascending tuple of traces."""
    return isinstance(value, tuple) and all([is_trace(company, trace) for trace in value]) and is_ascending(value)
