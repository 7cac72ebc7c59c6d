"""Traces, views and gap states once more straight from the words of [10.2] to [12.4], to compare with.

Where the document says that lists of more than five marks are alike, lists of six, seven and nine are made.
"""

from tests.plain_cutters import kept_by_parts
from tests.plain_lots import plain_group, plain_shown
from tests.plain_talks import plain_bound, plain_list, plain_talk, plain_way, possible_letters, rows_that_grow
from tests.plain_walks import plain_short


def chains(company, many):
    """The rows of up to so many letters, each upon the one before it."""
    return rows_that_grow(company, many, lambda row, letter: letter[1] == len(row) - 1)


def bundles_of(company, many):
    """All rows of just so many letters of a company."""
    rows = [()]
    for _ in range(many):
        rows = [(*row, letter) for row in rows for letter in possible_letters(company, row)]
    return rows


def plain_turns(company, person):
    """The triples (writer, whether it is a taking, turn) of what is written upon letters of a person."""
    return [
        (other, takes, turn) for takes, turns in ((False, company.answers), (True, company.takings))
        for (one, other), turn in turns.items() if one == person
    ]


def row_upon(turn, row, mark):
    road, adds, cutter = turn
    row = kept_by_parts(road.parts, row)
    return kept_by_parts(cutter.parts, row + (mark,) if adds else row)


def bound_in(company, rule, person, row):
    return kept_by_parts(rule.cutter.parts, kept_by_parts(company.copies[person].parts, row))


def plain_length(many):
    return min(many, 6)


def plain_place(at, many):
    if many <= 5:
        return at
    return at if at < 2 else 6 - (many - at) if many - at <= 3 else 2


def real_lengths(length):
    return (6, 7, 9) if length == 6 else (length,)


# Traces: [10.2].


def real_traces(trace):
    """Lists that a letter with this trace can have, with u as the mark that is looked at."""
    person, length, place, is_same = trace
    for many in real_lengths(length):
        if place == length:
            yield tuple(range(many)), "u"
        for at in range(many):
            if place != length and plain_place(at, many) == place:
                yield tuple("u" if at == other else other for other in range(many)), "v"


def steps_of_trace(company, trace):
    person, length, place, is_same = trace
    steps = set()
    for writer, takes, turn in plain_turns(company, person):
        told = set()
        for row, mark in real_traces(trace):
            row = row_upon(turn, row, mark)
            many = plain_length(len(row))
            found = {(writer, many, many, True)} if place == length else set()
            if "u" in row:
                found.add((writer, many, plain_place(row.index("u"), len(row)), is_same and not takes))
            told.add(frozenset(found))
        assert len(told) == 1, (trace, turn)
        steps |= told.pop()
    return steps


def closure(first, steps_of):
    found, new = set(first), set(first)
    while new:
        new = {step for member in new for step in steps_of(member)} - found
        found |= new
    return found


def plain_traces(company, more=()):
    return closure({(person, 0, 0, True) for person in company.starts} | set(more), lambda trace: steps_of_trace(company, trace))


def are_closed_traces(company, traces):
    return plain_traces(company, traces) == set(traces)


def all_traces(company):
    return [
        (person, length, place, is_same) for person in company.people for length in range(7)
        for place in range(length + 1) for is_same in ((True,) if place == length else (False, True))
    ]


def is_bound_apart(company, rule, trace):
    """Whether the trace is bound, and of another talk."""
    person, length, place, is_same = trace
    if is_same or place == length:
        return False
    told = {"u" in bound_in(company, rule, person, row) for row, _ in real_traces(trace)}
    assert len(told) == 1, trace
    return told.pop()


def plain_mixed_pairs(rule, lot):
    letters = lot.bundle.letters
    groups = {mark: plain_group(rule, lot, mark) for mark in lot.came}
    return tuple(
        (first, second) for first in lot.came for second in lot.came
        if first < second and second in groups[first] and plain_talk(letters, first) != plain_talk(letters, second)
    )


# Bases and views: [11.2] to [11.5].


def row_of_places(many):
    return tuple(plain_place(at, many) for at in range(many))


def told_upon(company, base):
    """The pairs (base, view) of the letters upon one with this base."""
    person, length = base
    found = set()
    for writer, _, turn in plain_turns(company, person):
        told = set()
        for many in real_lengths(length):
            row = row_upon(turn, row_of_places(many), length)
            told.add(((writer, plain_length(len(row))), (base, writer, plain_short(row))))
        assert len(told) == 1, (base, turn)
        found |= told
    return found


def rows_with(short):
    """Rows with this short form."""
    first, between, last = short
    if not last:
        return [first]
    return [first + between + last, first + between + between[-1:] + last]


def views_upon(company, view):
    base, person, short = view
    found = set()
    for writer, _, turn in plain_turns(company, person):
        told = {plain_short(row_upon(turn, row, 7)) for row in rows_with(short)}
        assert len(told) == 1, (view, turn)
        found.add((base, writer, told.pop()))
    return found


def plain_closed_pair(company, bases=(), views=()):
    """The least closed pair that has these bases and views."""
    first = {(person, 0) for person in company.starts} | set(bases)
    bases = closure(first, lambda base: {near for near, _ in told_upon(company, base)})
    first = {view for base in bases for _, view in told_upon(company, base)} | set(views)
    return bases, closure(first, lambda view: views_upon(company, view))


def bound_in_view(company, rule, view):
    _, person, short = view
    return {place for place in bound_in(company, rule, person, rows_with(short)[0]) if place != 7}


def bound_at_base(company, rule, base):
    person, length = base
    told = {frozenset(bound_in(company, rule, person, row_of_places(many))) for many in real_lengths(length)}
    assert len(told) == 1, base
    return told.pop()


def meet_alike(company, rules, base, views):
    """Whether all views of a base meet by both rules or by neither, each other and the letter itself."""
    high = [bound_at_base(company, rule, base) for rule in rules]
    low = {view: [bound_in_view(company, rule, view) for rule in rules] for view in views}
    for view in views:
        told = [
            base[1] in bound or rule.sees_lost and bool(bound & above)
            for rule, bound, above in zip(rules, low[view], high)
        ]
        if told[0] != told[1]:
            return False
        for other in views:
            told = [rule.sees_lost and bool(here & there) for rule, here, there in zip(rules, low[view], low[other])]
            if told[0] != told[1]:
                return False
    return True


# Gap states: [12.3].


def plain_gaps(own, marks):
    """The gaps of some marks of a way, of which these letters are of the own talk."""
    ours = [mark for mark in marks if mark in own]
    ahead = [mark for mark in own if not ours or mark < ours[0]]
    bits = []
    for mark in marks:
        if mark not in own:
            bits.append(2)
        else:
            later = [other for other in marks if other > mark]
            bits.append(1 if [x for x in own if x > mark and (not later or x < later[0]) and x not in marks] else 0)
    return (1 if [mark for mark in ahead if mark not in marks] else 0), tuple(bits)


def gap_state_of(company, letters, mark):
    way, talk = plain_way(letters, mark), plain_talk(letters, mark)
    lead, bits = plain_gaps([above for above in way if above >= talk], plain_list(company, letters, mark))
    return letters[mark][0], lead, plain_short(bits)


def situations(state):
    """Ways with these gaps: the marks of the own talk, and those of the list."""
    _, lead, short = state
    for bits in rows_with((short[0], tuple(sorted(short[1], key=lambda bit: bit != 2)), short[2])):
        own, marks, mark = [], [], 0
        for bit in bits:
            if bit == 2:
                marks.append(mark)
                mark += 2
        if lead:
            own.append(mark)
            mark += 2
        for bit in bits:
            if bit != 2:
                own.append(mark)
                marks.append(mark)
                mark += 1
                if bit == 1:
                    own.append(mark)
                    mark += 1
        yield own, tuple(marks), mark


def gap_states_upon(company, state):
    found = set()
    for writer, takes, turn in plain_turns(company, state[0]):
        told = set()
        for own, marks, mark in situations(state):
            row = row_upon(turn, marks, mark)
            lead, bits = plain_gaps([] if takes else own + [mark], row)
            told.add((writer, lead, plain_short(bits)))
        assert len(told) == 1, (state, turn, told)
        found |= told
    return found


def plain_gap_states(company, more=()):
    first = {(person, 0, ((), (), ())) for person in company.starts} | set(more)
    return closure(first, lambda state: gap_states_upon(company, state))


def has_plain_place(company, rule, state, word):
    """Whether a letter with this gap state can be in such a place."""
    told = set()
    for own, marks, _ in situations(state):
        lead, bits = plain_gaps(own, bound_in(company, rule, state[0], marks))
        told.add(any(bits) if word == "wrong" else lead == 1 or 1 in bits)
    assert len(told) == 1, state
    return told.pop()


def plain_places(rule, lot):
    letters = lot.bundle.letters
    beneath = plain_shown(rule, lot)
    places = {}
    for mark in lot.came:
        talk = plain_talk(letters, mark)
        belongs = max((x for x in plain_way(letters, mark) if x in lot.came and plain_talk(letters, x) == talk), default=None)
        if beneath[mark] == belongs:
            places[mark] = "right"
        else:
            places[mark] = "missed" if beneath[mark] is None else "wrong"
    return places


def binds_foreign(company, rule, letters):
    """Whether the last letter of a chain binds a mark of another talk."""
    last = len(letters) - 1
    talk = plain_talk(letters, last)
    return any(plain_talk(letters, mark) != talk for mark in plain_bound(rule, company, letters, last))
