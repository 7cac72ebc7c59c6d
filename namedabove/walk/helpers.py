"""Who should help: which people must keep all marks, so that letters are not parted."""

from namedabove.base.companies import Company, check_company, is_some_of
from namedabove.base.cutters import Cutter
from namedabove.errors import InvalidOperation, TooMany
from namedabove.read.lots import Lot
from namedabove.read.rules import check_rule
from namedabove.talk.bundles import Bundle
from namedabove.walk.questions import Question, check_kin, check_most, check_question
from namedabove.walk.searches import Searches
from namedabove.walk.states import check_limit


def helped(company, people):
    """The company helped by some of its people: in what they write, no mark is missing and nothing is cut."""
    check_company(company)
    check_helpers(company, people)
    return Company(
        company.people,
        helped_turns(company.answers, people),
        takings=helped_turns(company.takings, people),
        starts=company.starts,
        copies=company.copies,
    )


def helpers(company, rule, one, other, *, kin, most=None, limit=2000):
    """The ascending tuple of all sets of fewest people that help two people."""
    check_question(company, rule, one, other, kin)
    check_most(most)
    check_limit(limit)
    return fewest(Helps(company, rule, limit), one, other, kin, most)


def helps(company, rule, one, other, people, *, kin, most=None, limit=2000):
    """Whether a set of people helps two people."""
    check_question(company, rule, one, other, kin)
    check_helpers(company, people)
    check_most(most)
    check_limit(limit)
    return not Searches(helped(company, people), rule, limit).on_states(one, other, kin).is_within(most)


def help_table(company, rule, *, kin, most=None, limit=2000):
    """A dict from all pairs of people to the number of their fewest helpers, or None if no set helps."""
    check_company(company)
    check_rule(rule)
    check_kin(kin)
    check_most(most)
    check_limit(limit)
    sets = Helps(company, rule, limit)
    table = {}
    for one in company:
        for other in company:
            found = fewest(sets, one, other, kin, most)
            table[one, other] = len(found[0]) if found else None
    return table


def check_helpers(company, people):
    """Raise InvalidOperation for what is no ascending tuple of people of the company, perhaps of none."""
    if not is_some_of(people, company.people):
        raise InvalidOperation("the value is no ascending tuple of people of the company")


def helped_turns(turns, people):
    """The turns with which these people write nothing but all that they have."""
    keep_all = Cutter("all")
    return {
        (one, writer): (turns[one, writer][0], True, keep_all) if writer in people else turns[one, writer]
        for one, writer in turns
    }


def sets_by_size(people):
    """The sets of some of the people as ascending tuples: for each number of them the ascending list of sets."""
    by_size = [[()]]
    for size in range(1, len(people) + 1):
        by_size.append([
            (*some, person) for some in by_size[size - 1] for person in people if some == () or some[-1] < person
        ])
    return by_size


class Helps:
    """A company and a rule, and the searches in the company helped by each set of its people, each made once."""

    def __init__(self, company, rule, limit):
        self._company = company
        self._rule = rule
        self._limit = limit
        self._helped = {}
        self._searches = {}
        self.by_size = sets_by_size(company.people)

    def search(self, people, one, other, kin):
        """The search for letters of two people, if these people help; TooMany for too many states."""
        return self._for(people).on_states(one, other, kin)

    def is_known(self, people, papers, one, other, kin):
        """Whether there are too many states, but one of these papers shows that these people do not help."""
        if self._for(people).has_states():
            return False
        question = Question(self._helped[people], self._rule, one, other, kin)
        for _, lot, first, second in papers:
            bundle = Bundle.of_many(self._helped[people], lot.bundle.letters)
            if question.is_parting(Lot(bundle, lot.came), first, second):
                return True
        return False

    def check_all(self, sets):
        """Raise TooMany if in the company helped by one of these sets there are too many states."""
        if not all([self._for(people).has_states() for people in sets]):
            raise TooMany(self._limit)

    def _for(self, people):
        """The searches in the company helped by these people."""
        if people not in self._searches:
            self._helped[people] = helped(self._company, people)
            self._searches[people] = Searches(self._helped[people], self._rule, self._limit)
        return self._searches[people]


def fewest(sets, one, other, kin, most):
    """The ascending tuple of all sets of fewest people that help two people.

    If no set helps, what shows it for a few people often shows it for all: there are no states to be looked at then.
    """
    papers = []
    looked = []
    for some in sets.by_size:
        found = []
        for people in some:
            looked.append(people)
            if not sets.is_known(people, papers, one, other, kin):
                search = sets.search(people, one, other, kin)
                if search.is_within(most):
                    papers.append(search.parting())
                else:
                    found.append(people)
        if found:
            sets.check_all(looked)
            return tuple(found)
    return ()
