"""Rows of losses: how many letters must be lost one after another before letters of one talk are apart."""

from namedabove.base.names import is_ascending
from namedabove.read.lots import row_of_losses
from namedabove.walk.heads import Heads
from namedabove.walk.questions import ABOVE, Question, check_losses, check_question
from namedabove.walk.runs import Runs
from namedabove.walk.searches import Searches
from namedabove.walk.states import check_limit


def find_rows(company, rule, one, other, *, kin, most, limit=2000):
    """A parting with rows of at most so many losses, or sets of runs that show that there is none."""
    check_question(company, rule, one, other, kin)
    check_losses(most)
    check_limit(limit)
    return rows_paper(Searches(company, rule, limit), one, other, kin, most)


def rows_paper(searches, one, other, kin, most):
    """A parting with rows of at most so many losses, or sets of runs that show that there is none."""
    search = searches.on_runs(one, other, kin, most)
    if search.least() is not None:
        return search.parting()
    runs = search.told()
    none_zero = tuple([told for told, run in runs if run not in search.zero])
    none_one = tuple([told for told, run in runs if run not in search.one])
    return ("sets", tuple([told for told, _ in runs]), none_zero, none_one)


def is_rows_paper(company, rule, one, other, value, *, kin, most):
    """Whether the value is such a parting, or such sets, whoever made them."""
    question = Question(company, rule, one, other, kin)
    check_losses(most)
    if not isinstance(value, tuple) or len(value) != 4:
        return False
    word, told, first, second = value
    if word == "lot":
        if not question.is_parting(told, first, second):
            return False
        return row_of_losses(told, first) <= most and row_of_losses(told, second) <= most
    if word != "sets":
        return False
    ground = Runs(Heads(company, rule), most)
    runs, none_zero, none_one = [read_set(ground, part) for part in (told, first, second)]
    if runs is None or none_zero is None or none_one is None:
        return False
    behind = {run: ground.upon(run) for run in runs}
    if not are_closed(ground, runs, behind):
        return False
    ends, others = [ends_in(ground, runs, person, colour) for person, colour in ((one, 0), (other, 1))]
    if not is_without(ground, behind, none_zero, ends) or not is_without(ground, behind, none_one, others):
        return False
    if kin == ABOVE:
        return all([run in none_one for run in ends])
    return all([run in none_zero or run in none_one for run in runs])


def least_row(company, rule, one, other, *, kin, limit=2000):
    """The least number for which there is a parting with such rows; None without one for any number."""
    check_question(company, rule, one, other, kin)
    check_limit(limit)
    searches = Searches(company, rule, limit)
    if searches.has_states() and searches.on_states(one, other, kin).least() is None:
        return None
    # Each state has a run for some number: so beyond too many states there are, at last, too many runs.
    most = 0
    while searches.on_runs(one, other, kin, most).least() is None:
        most += 1
    return most


def read_set(ground, value):
    """A dict of the numbers of the runs in an ascending tuple; None for other values."""
    if not isinstance(value, tuple):
        return None
    runs = [ground.run_of(told) for told in value]
    if None in runs or not is_ascending(value):
        return None
    return {run: True for run in runs}


def ends_in(ground, runs, person, colour):
    """A dict of the runs with which a letter of a person comes with this colour."""
    numbers = [ground.number_of(person)]
    return {run: True for run in runs if ground.is_end(run, numbers, colour)}


def are_closed(ground, runs, behind):
    """Whether a set has the runs of all beginnings, and with each run those of all its steps."""
    heads = {head: True for head in ground.first()}
    for run in runs:
        for part in behind[run]:
            for head in part:
                heads[head] = True
    return all([run in runs for head in heads for run, _ in ground.states(head)])


def is_without(ground, behind, some, ends):
    """Whether these are some of the runs, from which answers lead to such runs only, and to no end."""
    if not all([run in behind for run in some]):
        return False
    heads = {head: True for run in some for head in behind[run][0]}
    return all([run in some and run not in ends for head in heads for run, _ in ground.states(head)])
