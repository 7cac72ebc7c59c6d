"""Letters that are parted: how many must be lost before letters of one talk are apart."""

from namedabove.base.companies import check_company
from namedabove.base.names import is_mark
from namedabove.read.rules import check_rule
from namedabove.walk.heads import Heads
from namedabove.walk.nets import LOSS
from namedabove.walk.questions import ABOVE, KINS, Question, check_most, check_question
from namedabove.walk.searches import Searches
from namedabove.walk.states import check_limit


def find_parted(company, rule, one, other, *, kin, most=None, limit=2000):
    """A parting with at most so many losses, or tables that show that there is none."""
    check_question(company, rule, one, other, kin)
    check_most(most)
    check_limit(limit)
    return parted_paper(Searches(company, rule, limit), one, other, kin, most)


def parted_paper(searches, one, other, kin, most):
    """A parting with at most so many losses, or tables that show that there is none."""
    search = searches.on_states(one, other, kin)
    if search.is_within(most):
        return search.parting()
    states = search.told()
    return ("tables", *[losses_in(states, costs) for costs in (search.reached, search.zero, search.one)])


def losses_in(states, costs):
    """A dict from the states to the losses that are among these costs, None without a cost."""
    return {told: costs[state][0] // LOSS if state in costs else None for told, state in states}


def is_parted_paper(company, rule, one, other, value, *, kin, most=None):
    """Whether the value is such a parting, or such tables, whoever made them."""
    question = Question(company, rule, one, other, kin)
    check_most(most)
    if not isinstance(value, tuple) or len(value) != 4:
        return False
    word, told, first, second = value
    if word == "lot":
        return question.is_parting(told, first, second) and (most is None or len(told) <= most)
    if word != "tables":
        return False
    heads = Heads(company, rule)
    so_far, zero, one_table = [read_table(heads, table) for table in (told, first, second)]
    if so_far is None or zero is None or one_table is None or None in list(so_far.values()):
        return False
    if not are_closed(heads, so_far, [zero, one_table]):
        return False
    ends, others = [ends_in(heads, so_far, person, colour) for person, colour in ((one, 0), (other, 1))]
    if not is_below(heads, zero, ends) or not is_below(heads, one_table, others):
        return False
    if kin == ABOVE:
        return do_show(most, [so_far, one_table], ends)
    return do_show(most, [so_far, zero, one_table], list(so_far))


def least_losses(company, rule, one, other, *, kin, limit=2000):
    """The least number of losses of a parting of two people; None without one."""
    check_question(company, rule, one, other, kin)
    check_limit(limit)
    return Searches(company, rule, limit).on_states(one, other, kin).least()


def least_break(company, rule, *, limit=2000):
    """The least number of losses of a parting of any two people and any kin; None without one."""
    check_company(company)
    check_rule(rule)
    check_limit(limit)
    searches = Searches(company, rule, limit)
    found = [searches.for_some(company.people, company.people, kin).least() for kin in KINS]
    return min([least for least in found if least is not None], default=None)


def read_table(heads, value):
    """A dict from states to integers of at least 0, or None, by the numbers of the states; None for other values."""
    if not isinstance(value, dict):
        return None
    states = [heads.state_of(told) for told in value]
    costs = list(value.values())
    if None in states or not all([cost is None or is_mark(cost) for cost in costs]):
        return None
    return dict(zip(states, costs))


def are_closed(heads, so_far, tables):
    """Whether the other tables have the same states, and whether these are closed under one more letter."""
    for table in tables:
        if len(table) != len(so_far) or not all([state in table for state in so_far]):
            return False
    least = {head: 0 for head in heads.first()}
    for state in so_far:
        answers, takings = heads.upon(state)
        for head in answers + takings:
            if head not in least or so_far[state] < least[head]:
                least[head] = so_far[state]
    for head in least:
        for state, loss in heads.states(head):
            if state not in so_far or so_far[state] > least[head] + loss:
                return False
    return True


def ends_in(heads, states, person, colour):
    """A dict of the states in which a letter of a person comes with this colour."""
    numbers = [heads.number_of(person)]
    return {state: True for state in states if heads.is_end(state, numbers, colour)}


def is_below(heads, table, ends):
    """Whether what a table tells of each state is at most what it costs to go on to an end, by any answer."""
    bounds = {}
    for state in table:
        answers, _ = heads.upon(state)
        for head in answers:
            if head not in bounds:
                bounds[head] = bound_of(heads.states(head), table, ends)
            if bounds[head] is not None and (table[state] is None or table[state] > bounds[head]):
                return False
    return True


def bound_of(states, table, ends):
    """The least that a table tells of going on by one of these states to an end; None for no way."""
    if any([state in ends for state, _ in states]):
        return 0
    return min([loss + table[state] for state, loss in states if table[state] is not None], default=None)


def do_show(most, tables, states):
    """Whether tables show that a parting needs more than so many losses, or, for None, that there is none."""
    for state in states:
        costs = [table[state] for table in tables]
        if None not in costs and (most is None or sum(costs) <= most):
            return False
    return True
