"""Letters that are parted: how many must be lost before letters of one talk are apart."""

from namedabove.base.companies import check_company
from namedabove.base.names import is_mark
from namedabove.read.rules import check_rule
from namedabove.walk.nets import Net
from namedabove.walk.questions import ABOVE, KINS, Question, Search, check_losses, check_question, search_on
from namedabove.walk.states import Walk, check_limit


def net_of_states(walk, limit):
    """The net of all states to which steps lead, in which ways cost the letters that are lost."""
    after = walk.all_steps(limit)
    within = {state: walk.after(state, False) for state in after}
    places = {state: (state, walk.loss(state)) for state in after}
    return Net(walk, walk.begins(), after, within, places)


def find_parted(company, rule, one, other, *, kin, most=None, limit=2000):
    """A parting with at most so many losses, or tables that show that there is none."""
    check_question(company, rule, one, other, kin)
    check_most(most)
    check_limit(limit)
    net = net_of_states(Walk(company, rule), limit)
    search = search_on(net, one, other, kin)
    least = search.least()
    if least is not None and (most is None or least <= most):
        lot, first, second = search.parting()
        return ("lot", lot, first, second)
    states = net.nodes()
    return (
        "tables",
        {state: search.reached[state][0] for state in states},
        {state: search.zero[state][0] if state in search.zero else None for state in states},
        {state: search.one[state][0] if state in search.one else None for state in states},
    )


def is_parted_paper(company, rule, one, other, value, *, kin, most=None):
    """Whether the value is such a parting, or such tables, whoever made them."""
    question = Question(company, rule, one, other, kin)
    check_most(most)
    if not isinstance(value, tuple) or len(value) != 4:
        return False
    word, told, first, second = value
    if word == "lot":
        return question.is_parting(told, first, second) and (most is None or len(told) <= most)
    if word != "tables":
        return False
    if not are_tables(question.walk, told, first, second):
        return False
    return are_closed(question, told, first, second) and do_show(question, most, told, first, second)


def least_losses(company, rule, one, other, *, kin, limit=2000):
    """The least number of losses of a parting of two people; None without one."""
    check_question(company, rule, one, other, kin)
    check_limit(limit)
    return search_on(net_of_states(Walk(company, rule), limit), one, other, kin).least()


def least_break(company, rule, *, limit=2000):
    """The least number of losses of a parting of any two people and any kin; None without one."""
    check_company(company)
    check_rule(rule)
    check_limit(limit)
    net = net_of_states(Walk(company, rule), limit)
    reached = net.costs_to()
    zero_ends = {person: net.ends(person, 0) for person in company}
    zero = {person: net.costs_from(zero_ends[person]) for person in company}
    found = []
    for other in company:
        one = net.costs_from(net.ends(other, 1))
        for person in company:
            found.extend([Search(net, kin, reached, zero_ends[person], zero[person], one).least() for kin in KINS])
    return min([least for least in found if least is not None], default=None)


def check_most(most):
    """Raise InvalidNumber for what is neither a number of losses nor None."""
    if most is not None:
        check_losses(most)


def are_tables(walk, so_far, zero, one):
    """Whether the values are dicts from the same states to integers of at least 0, or None in the last two."""
    for table in (so_far, zero, one):
        if not isinstance(table, dict) or not all([walk.is_state(state) for state in table]):
            return False
    if len(so_far) != len(zero) or len(so_far) != len(one):
        return False
    for state in so_far:
        if state not in zero or state not in one or not is_mark(so_far[state]):
            return False
    return all([table[state] is None or is_mark(table[state]) for table in (zero, one) for state in table])


def are_closed(question, so_far, zero, one):
    """Whether tables are closed under one more letter."""
    walk = question.walk
    for state in walk.begins():
        if state not in so_far or so_far[state] > walk.loss(state):
            return False
    for state in so_far:
        for step in walk.after(state, True):
            if step not in so_far or so_far[step] > so_far[state] + walk.loss(step):
                return False
        for step in walk.after(state, False):
            if not is_below(zero, state, step, question.is_zero_end(step), walk.loss(step)):
                return False
            if not is_below(one, state, step, question.is_one_end(step), walk.loss(step)):
                return False
    return True


def is_below(table, state, step, is_end, loss):
    """Whether what a table tells of a state is at most what it costs to go on by this step."""
    if is_end and table[state] != 0:
        return False
    if table[step] is None:
        return True
    return table[state] is not None and table[state] <= loss + table[step]


def do_show(question, most, so_far, zero, one):
    """Whether tables show that a parting needs more than so many losses, or, for None, that there is none."""
    for state in so_far:
        if question.kin != ABOVE:
            costs = [so_far[state], zero[state], one[state]]
        elif question.is_zero_end(state):
            costs = [so_far[state], one[state]]
        else:
            costs = [None]
        if None not in costs and (most is None or sum(costs) <= most):
            return False
    return True
