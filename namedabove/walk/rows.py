"""Rows of losses: how many letters must be lost one after another before letters of one talk are apart."""

from namedabove.base.names import is_ascending, is_mark
from namedabove.errors import TooMany
from namedabove.read.lots import row_of_losses
from namedabove.walk.nets import Net
from namedabove.walk.parted import net_of_states
from namedabove.walk.questions import ABOVE, Question, check_losses, check_question, search_on
from namedabove.walk.states import MAX_STATES, Walk, check_limit


def runs_of(walk, states, row, most):
    """The runs of letters in these states, upon one whose row is this; those with too long a row are left out."""
    runs = [(state, row + 1 if walk.loss(state) else 0) for state in states]
    return tuple([run for run in runs if run[1] <= most])


def net_of_runs(walk, most, limit):
    """The net of all runs to which steps lead; TooMany for more of them than the limit."""
    first = runs_of(walk, walk.begins(), 0, most)
    after = {}
    found = list(first)
    seen = {run: True for run in first}
    while found:
        if len(seen) > limit:
            raise TooMany(limit)
        run = found.pop()
        after[run] = runs_of(walk, walk.after(run[0], True), run[1], most)
        new = [step for step in after[run] if step not in seen]
        for step in new:
            seen[step] = True
        found.extend(new)
    within = {run: runs_of(walk, walk.after(run[0], False), run[1], most) for run in after}
    # The rows are kept small by what runs there are, so a way costs nothing but its letters.
    return Net(walk, first, after, within, {run: (run[0], 0) for run in after})


def find_rows(company, rule, one, other, *, kin, most, limit=2000):
    """A parting with rows of at most so many losses, or sets of runs that show that there is none."""
    check_question(company, rule, one, other, kin)
    check_losses(most)
    check_limit(limit)
    net = net_of_runs(Walk(company, rule), most, limit)
    search = search_on(net, one, other, kin)
    if search.least() is not None:
        lot, first, second = search.parting()
        return ("lot", lot, first, second)
    runs = net.nodes()
    none_zero = tuple([run for run in runs if run not in search.zero])
    return ("sets", runs, none_zero, tuple([run for run in runs if run not in search.one]))


def is_rows_paper(company, rule, one, other, value, *, kin, most):
    """Whether the value is such a parting, or such sets, whoever made them."""
    question = Question(company, rule, one, other, kin)
    check_losses(most)
    if not isinstance(value, tuple) or len(value) != 4:
        return False
    word, told, first, second = value
    if word == "lot":
        if not question.is_parting(told, first, second):
            return False
        return row_of_losses(told, first) <= most and row_of_losses(told, second) <= most
    if word != "sets" or not all([is_set_of_runs(question.walk, part, most) for part in (told, first, second)]):
        return False
    runs, none_zero, none_one = [{run: True for run in part} for part in (told, first, second)]
    return are_closed(question, most, runs, none_zero, none_one) and do_show(question, runs, none_zero, none_one)


def least_row(company, rule, one, other, *, kin, limit=2000):
    """The least number for which there is a parting with such rows; None without one for any number."""
    check_question(company, rule, one, other, kin)
    check_limit(limit)
    walk = Walk(company, rule)
    # There are never more states than MAX_STATES, so this tells for any limit whether there is a parting at all.
    net = net_of_states(walk, MAX_STATES)
    if search_on(net, one, other, kin).least() is None:
        if len(net.nodes()) > limit:
            raise TooMany(limit)
        return None
    most = 0
    while search_on(net_of_runs(walk, most, limit), one, other, kin).least() is None:
        most += 1
    return most


def is_run(walk, value, most):
    """Whether the value is a run whose row is at most so long."""
    if not isinstance(value, tuple) or len(value) != 2 or not walk.is_state(value[0]) or not is_mark(value[1]):
        return False
    return value[1] <= most and (value[1] == 0) == walk.comes(value[0])


def is_set_of_runs(walk, value, most):
    """Whether the value is an ascending tuple of runs."""
    return isinstance(value, tuple) and all([is_run(walk, run, most) for run in value]) and is_ascending(value)


def are_closed(question, most, runs, none_zero, none_one):
    """Whether sets of runs are closed under one more letter."""
    walk = question.walk
    if not all([run in runs for run in runs_of(walk, walk.begins(), 0, most)]):
        return False
    for state, row in runs:
        if not all([step in runs for step in runs_of(walk, walk.after(state, True), row, most)]):
            return False
    if not all([run in runs for part in (none_zero, none_one) for run in part]):
        return False
    for state, row in none_zero:
        for step in runs_of(walk, walk.after(state, False), row, most):
            if step not in none_zero or question.is_zero_end(step[0]):
                return False
    for state, row in none_one:
        for step in runs_of(walk, walk.after(state, False), row, most):
            if step not in none_one or question.is_one_end(step[0]):
                return False
    return True


def do_show(question, runs, none_zero, none_one):
    """Whether sets of runs show that there is no parting with such rows."""
    if question.kin == ABOVE:
        return all([run in none_one for run in runs if question.is_zero_end(run[0])])
    return all([run in none_zero or run in none_one for run in runs])
