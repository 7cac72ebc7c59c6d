"""Rows of losses: how many letters must be lost one after another before letters of one talk are apart."""

from namedabove.base.names import is_ascending, is_mark
from namedabove.errors import TooMany
from namedabove.read.lots import row_of_losses
from namedabove.walk.heads import Heads
from namedabove.walk.nets import Net
from namedabove.walk.questions import ABOVE, Question, Search, check_losses, check_question
from namedabove.walk.states import check_limit


class Runs:
    """Numbers for runs and for their heads, which tell the row of the letter that is written upon.

    The rows are kept small by what runs there are, so a way costs nothing but its letters.
    """

    def __init__(self, heads, most):
        self._heads = heads
        self._most = most
        self._base = most + 1

    def first(self):
        """The heads of letters upon none."""
        return [head * self._base for head in self._heads.first()]

    def states(self, head):
        """The list of pairs (run, 0) of the letters with this head; those with too long a row are left out."""
        head, row = divmod(head, self._base)
        found = []
        for state, loss in self._heads.states(head):
            if not loss:
                found.append((state * self._base, 0))
            elif row < self._most:
                found.append((state * self._base + row + 1, 0))
        return found

    def upon(self, run):
        """The heads of the letters that answer a letter with this run, and of those that take it."""
        state, row = divmod(run, self._base)
        answers, takings = self._heads.upon(state)
        return [head * self._base + row for head in answers], [head * self._base + row for head in takings]

    def is_end(self, run, people, colour):
        """Whether a letter of one of these people (by their numbers) comes with this run and colour."""
        return self._heads.is_end(run // self._base, people, colour)

    def number_of(self, person):
        """The number of a person."""
        return self._heads.number_of(person)

    def writer_of(self, run):
        """The name of the writer of a letter with this run."""
        return self._heads.writer_of(run // self._base)

    def loss(self, run):
        """1 for a run with which a letter is lost, otherwise 0."""
        return self._heads.loss(run // self._base)

    def told(self, run):
        """The pair (state, row) of a run."""
        state, row = divmod(run, self._base)
        return self._heads.told(state), row

    def run_of(self, value):
        """The number of a run that is told as a pair; None for what is no run that is possible."""
        if not isinstance(value, tuple) or len(value) != 2:
            return None
        state = self._heads.state_of(value[0])
        if state is None or not is_mark(value[1]) or value[1] > self._most:
            return None
        if (value[1] > 0) != (self._heads.loss(state) > 0):
            return None
        return state * self._base + value[1]


def search_on_runs(company, heads, one, other, kin, most, limit):
    """The net of all runs to which steps lead, and the search for letters of two people there."""
    net = Net(company, Runs(heads, most))
    if not net.grow(limit):
        raise TooMany(limit)
    return net, Search(net, kin, (one,), (other,))


def find_rows(company, rule, one, other, *, kin, most, limit=2000):
    """A parting with rows of at most so many losses, or sets of runs that show that there is none."""
    check_question(company, rule, one, other, kin)
    check_losses(most)
    check_limit(limit)
    net, search = search_on_runs(company, Heads(company, rule), one, other, kin, most, limit)
    if search.least() is not None:
        lot, first, second = search.parting()
        return ("lot", lot, first, second)
    runs = net.told()
    none_zero = tuple([told for told, run in runs if run not in search.zero])
    none_one = tuple([told for told, run in runs if run not in search.one])
    return ("sets", tuple([told for told, _ in runs]), none_zero, none_one)


def is_rows_paper(company, rule, one, other, value, *, kin, most):
    """Whether the value is such a parting, or such sets, whoever made them."""
    question = Question(company, rule, one, other, kin)
    check_losses(most)
    if not isinstance(value, tuple) or len(value) != 4:
        return False
    word, told, first, second = value
    if word == "lot":
        if not question.is_parting(told, first, second):
            return False
        return row_of_losses(told, first) <= most and row_of_losses(told, second) <= most
    if word != "sets":
        return False
    ground = Runs(Heads(company, rule), most)
    runs, none_zero, none_one = [read_set(ground, part) for part in (told, first, second)]
    if runs is None or none_zero is None or none_one is None or not are_closed(ground, runs):
        return False
    ends = {run: True for run in runs if ground.is_end(run, [ground.number_of(one)], 0)}
    others = {run: True for run in runs if ground.is_end(run, [ground.number_of(other)], 1)}
    if not is_without(ground, runs, none_zero, ends) or not is_without(ground, runs, none_one, others):
        return False
    if kin == ABOVE:
        return all([run in none_one for run in ends])
    return all([run in none_zero or run in none_one for run in runs])


def least_row(company, rule, one, other, *, kin, limit=2000):
    """The least number for which there is a parting with such rows; None without one for any number."""
    check_question(company, rule, one, other, kin)
    check_limit(limit)
    heads = Heads(company, rule)
    net = Net(company, heads)
    if net.grow(limit) and Search(net, kin, (one,), (other,)).least() is None:
        return None
    # Each state has a run for some number: so beyond too many states there are, at last, too many runs.
    most = 0
    while search_on_runs(company, heads, one, other, kin, most, limit)[1].least() is None:
        most += 1
    return most


def read_set(ground, value):
    """A dict of the numbers of the runs in an ascending tuple; None for other values."""
    if not isinstance(value, tuple):
        return None
    runs = [ground.run_of(told) for told in value]
    if None in runs or not is_ascending(value):
        return None
    return {run: True for run in runs}


def are_closed(ground, runs):
    """Whether a set has the runs of all beginnings, and with each run those of all its steps."""
    heads = {head: True for head in ground.first()}
    for run in runs:
        answers, takings = ground.upon(run)
        for head in answers + takings:
            heads[head] = True
    return all([run in runs for head in heads for run, _ in ground.states(head)])


def is_without(ground, runs, some, ends):
    """Whether these are some of the runs, from which answers lead to such runs only, and to no end."""
    if not all([run in runs for run in some]):
        return False
    heads = {head: True for run in some for head in ground.upon(run)[0]}
    return all([run in some and run not in ends for head in heads for run, _ in ground.states(head)])
