"""States, tables and sets once more straight from the words of [7.1] to [9.2], to compare with."""

from tests.plain_cutters import kept_by_parts
from tests.plain_talks import plain_bound, plain_list


def plain_short(row):
    row = tuple(row)
    if len(row) <= 5:
        return (row, (), ())
    return (row[:2], tuple(sorted(set(row[2:-3]))), row[-3:])


def colour_short(row):
    """The short form in a state, which leaves 2 out between."""
    first, between, last = plain_short(row)
    return (first, tuple(colour for colour in between if colour != 2), last)


def some_row(short):
    """A row of colours with this short form."""
    first, between, last = short
    return first + (between or (2,)) + last if last else first


def plain_colours(rule):
    return (0, 1) if rule.sees_lost else (0, 1, 2)


def comes_plain(company, rule, state):
    person, own, short = state
    bound = kept_by_parts(rule.cutter.parts, kept_by_parts(company.copies[person].parts, some_row(short)))
    return own != 2 and 1 - own not in bound


def plain_cost(company, rule, state):
    return 0 if comes_plain(company, rule, state) else 1


def is_possible(company, rule, state):
    return rule.sees_lost or state[1] == 2 or comes_plain(company, rule, state)


def plain_begins(company, rule):
    return [(person, own, ((), (), ())) for person in company.starts for own in plain_colours(rule)]


def plain_steps(company, rule, state, takings=True):
    person, own, short = state
    found = set()
    for turns in (company.answers, company.takings) if takings else (company.answers,):
        for (one, other), (road, adds, cutter) in turns.items():
            if one == person:
                row = kept_by_parts(road.parts, some_row(short))
                row = colour_short(kept_by_parts(cutter.parts, row + (own,) if adds else row))
                found |= {(other, colour, row) for colour in plain_colours(rule)}
    return sorted(step for step in found if is_possible(company, rule, step))


def plain_states(company, rule):
    found = new = set(plain_begins(company, rule))
    while new:
        new = {step for state in new for step in plain_steps(company, rule, state)} - found
        found = found | new
    return sorted(found)


def plain_state_of(rule, bundle, mark, colours):
    """The state of a letter, or None if it has none."""
    company, letters = bundle.company, bundle.letters
    row = colour_short(colours[above] for above in plain_list(company, letters, mark))
    bound = {colours[above] for above in plain_bound(rule, company, letters, mark)}
    if not rule.sees_lost and colours[mark] != 2 and 1 - colours[mark] in bound:
        return None
    return (letters[mark][0], colours[mark], row)


def is_plain_end(company, rule, person, colour, state):
    return state[:2] == (person, colour) and comes_plain(company, rule, state)


def are_plain_tables(company, rule, one, other, kin, most, tables):
    """Whether three dicts with right keys and values are closed, and show what they must."""
    so_far, zero, one_table = tables
    if any(so_far.get(state, 10**9) > plain_cost(company, rule, state) for state in plain_begins(company, rule)):
        return False
    for state in so_far:
        for step in plain_steps(company, rule, state):
            if step not in so_far or so_far[step] > so_far[state] + plain_cost(company, rule, step):
                return False
        for step in plain_steps(company, rule, state, False):
            for table, person, colour in ((zero, one, 0), (one_table, other, 1)):
                if is_plain_end(company, rule, person, colour, step) and table[state] != 0:
                    return False
                if table[step] is not None:
                    if table[state] is None or table[state] > plain_cost(company, rule, step) + table[step]:
                        return False
    for state in so_far:
        costs = [so_far[state], zero[state], one_table[state]]
        if kin == "above":
            costs = [so_far[state], one_table[state]] if is_plain_end(company, rule, one, 0, state) else [None]
        if None not in costs and (most is None or sum(costs) <= most):
            return False
    return True


def plain_runs(company, rule, states, row, most):
    told = [(state, row + 1 if plain_cost(company, rule, state) else 0) for state in states]
    return [run for run in told if run[1] <= most]


def are_plain_sets(company, rule, one, other, kin, most, sets):
    """Whether three tuples of runs are closed, and show what they must."""
    runs, none_zero, none_one = (set(part) for part in sets)
    if not runs >= set(plain_runs(company, rule, plain_begins(company, rule), 0, most)) or not runs >= none_zero | none_one:
        return False
    for state, row in runs:
        if not runs >= set(plain_runs(company, rule, plain_steps(company, rule, state), row, most)):
            return False
        for part, person, colour in ((none_zero, one, 0), (none_one, other, 1)):
            if (state, row) in part:
                steps = plain_runs(company, rule, plain_steps(company, rule, state, False), row, most)
                if not part >= set(steps) or any(is_plain_end(company, rule, person, colour, step) for step, _ in steps):
                    return False
    if kin == "above":
        return all(run in none_one for run in runs if is_plain_end(company, rule, one, 0, run[0]))
    return runs == none_zero | none_one
