"""Companies: who begins talks, who answers whom, and what is done to the list of marks."""

from namedabove.base.cutters import Cutter, check_cutter
from namedabove.base.names import is_ascending, is_name
from namedabove.errors import InvalidCompany, InvalidOperation, UnknownName

MAX_PEOPLE = 4


def is_people(value):
    """Whether the value is an ascending tuple of one to four names."""
    if not isinstance(value, tuple) or not 1 <= len(value) <= MAX_PEOPLE:
        return False
    return all([is_name(person) for person in value]) and is_ascending(value)


def is_some_of(value, people):
    """Whether the value is an ascending tuple of some of these people, perhaps of none."""
    if not isinstance(value, tuple) or not all([person in people for person in value]):
        return False
    return is_ascending(value)


def is_turn(value):
    """Whether the value is a triple of a road, of whether the mark is added, and of a cutter."""
    if not isinstance(value, tuple) or len(value) != 3:
        return False
    road, adds, cutter = value
    return isinstance(road, Cutter) and isinstance(adds, bool) and isinstance(cutter, Cutter)


def is_pair(value, people):
    """Whether the value is a pair of two of these people, perhaps equal ones."""
    return isinstance(value, tuple) and len(value) == 2 and all([person in people for person in value])


def is_turns(value, people):
    """Whether the value is a dict from pairs of these people to turns."""
    if not isinstance(value, dict):
        return False
    return all([is_pair(pair, people) and is_turn(value[pair]) for pair in value])


def is_copies(value, people):
    """Whether the value is a dict from some of these people to cutters."""
    if not isinstance(value, dict):
        return False
    return all([person in people and isinstance(value[person], Cutter) for person in value])


def is_renaming(value, people):
    """Whether the value is a dict from all these people to different names."""
    if not isinstance(value, dict) or len(value) != len(people):
        return False
    if not all([person in value and is_name(value[person]) for person in people]):
        return False
    return len({value[person] for person in people}) == len(people)


def in_order(turns):
    """A copy of a dict of turns, its pairs ascending."""
    return {pair: turns[pair] for pair in sorted(list(turns))}


def with_turn(turns, pair, turn):
    """The turns with this one for a pair, or without one for it if it is None."""
    rest = {old: turns[old] for old in turns if old != pair}
    return rest if turn is None else {**rest, pair: turn}


def turns_within(turns, people):
    """The turns of pairs of just these people."""
    return {(one, other): turns[one, other] for one, other in turns if one in people and other in people}


def turns_renamed(turns, names):
    """The turns of the pairs under their new names."""
    return {(names[one], names[other]): turns[one, other] for one, other in turns}


class Company:
    """People who answer and take letters of one another; it never changes."""

    def __init__(self, people, answers, *, takings=None, starts=None, copies=None):
        if not is_people(people):
            raise InvalidCompany(f"the people are no ascending tuple of one to {MAX_PEOPLE} names")
        takings = {} if takings is None else takings
        if not is_turns(answers, people) or not is_turns(takings, people):
            raise InvalidCompany("the answers or takings are no dict from pairs of people to turns")
        starts = people if starts is None else starts
        if not is_some_of(starts, people):
            raise InvalidCompany("the starts are no ascending tuple of people")
        copies = {} if copies is None else copies
        if not is_copies(copies, people):
            raise InvalidCompany("the copies are no dict from people to cutters")
        self._people = people
        self._answers = in_order(answers)
        self._takings = in_order(takings)
        self._starts = starts
        self._copies = {person: copies[person] if person in copies else Cutter() for person in people}

    @property
    def people(self):
        """The ascending tuple of the names."""
        return self._people

    @property
    def answers(self):
        """The dict from pairs (writer, answerer) to the turns of answers."""
        return {pair: self._answers[pair] for pair in self._answers}

    @property
    def takings(self):
        """The dict from pairs (writer, answerer) to the turns of takings."""
        return {pair: self._takings[pair] for pair in self._takings}

    @property
    def starts(self):
        """The ascending tuple of the people who write letters upon none."""
        return self._starts

    @property
    def copies(self):
        """The dict from all people to the cutters of their roads to the reader."""
        return {person: self._copies[person] for person in self._copies}

    def turn(self, one, other, *, takes=False):
        """The turn with which the other one answers, or takes, letters of the one; None without one."""
        check_person(self, one)
        check_person(self, other)
        if not isinstance(takes, bool):
            raise InvalidOperation("takes is no boolean")
        turns = self._takings if takes else self._answers
        return turns.get((one, other), None)

    def copy(self, person):
        """The cutter of the road from this person to the reader."""
        return self.road_to_reader(person)

    def road_to_reader(self, person):
        """The same, under a name that no class has for a method that changes something.

        A method that an operator calls is known by its name alone, and the one called copy of a desk changes it.
        """
        check_person(self, person)
        return self._copies[person]

    def with_answer(self, one, other, turn):
        """The company with this turn of answers, or without one if it is None."""
        check_pair(self, one, other, turn)
        answers = with_turn(self._answers, (one, other), turn)
        return Company(self._people, answers, takings=self._takings, starts=self._starts, copies=self._copies)

    def with_taking(self, one, other, turn):
        """The company with this turn of takings, or without one if it is None."""
        check_pair(self, one, other, turn)
        takings = with_turn(self._takings, (one, other), turn)
        return Company(self._people, self._answers, takings=takings, starts=self._starts, copies=self._copies)

    def with_copy(self, person, cutter):
        """The company with this cutter on the road from a person to the reader."""
        check_person(self, person)
        check_cutter(cutter)
        copies = {**self._copies, person: cutter}
        return Company(self._people, self._answers, takings=self._takings, starts=self._starts, copies=copies)

    def with_starts(self, starts):
        """The company in which just these people write letters upon none."""
        if not is_some_of(starts, self._people):
            raise InvalidOperation("the starts are no ascending tuple of people")
        return Company(self._people, self._answers, takings=self._takings, starts=starts, copies=self._copies)

    def part(self, people):
        """The company of just these people."""
        check_group(self, people)
        return Company(
            people,
            turns_within(self._answers, people),
            takings=turns_within(self._takings, people),
            starts=tuple([person for person in self._starts if person in people]),
            copies={person: self._copies[person] for person in people},
        )

    def renamed(self, names):
        """The company with other names for all people."""
        if not is_renaming(names, self._people):
            raise InvalidOperation("the names are no dict from all people to different names")
        return Company(
            tuple(sorted([names[person] for person in self._people])),
            turns_renamed(self._answers, names),
            takings=turns_renamed(self._takings, names),
            starts=tuple(sorted([names[person] for person in self._starts])),
            copies={names[person]: self._copies[person] for person in self._people},
        )

    def writers(self):
        """The ascending tuple of the people who write letters in some bundle."""
        pairs = [*self._answers, *self._takings]
        found = list(self._starts)
        at = 0
        while at < len(found):
            one = found[at]
            near = [other for other in self._people if (one, other) in pairs and other not in found]
            found.extend(near)
            at += 1
        return tuple(sorted(found))

    def is_closed(self, people):
        """Whether nobody else of the company answers or takes letters of these people."""
        check_group(self, people)
        return all([other in people for one, other in [*self._answers, *self._takings] if one in people])

    def __contains__(self, x):
        return x in self._people

    def __iter__(self):
        return iter(self._people)

    def __len__(self):
        return len(self._people)

    def __eq__(self, other):
        if not isinstance(other, Company):
            return False
        if self._people != other._people or self._starts != other._starts or self._copies != other._copies:
            return False
        return self._answers == other._answers and self._takings == other._takings

    def __str__(self):
        turns = f"{len(self._answers)} answers, {len(self._takings)} takings"
        return f"company of {len(self._people)} people, {turns}"


def check_company(value):
    """Raise InvalidCompany for what is no company."""
    if not isinstance(value, Company):
        raise InvalidCompany("the value is no company")


def check_person(company, person):
    """Raise UnknownName for who is none of the people."""
    if person not in company.people:
        raise UnknownName(person)


def check_pair(company, one, other, turn):
    """Raise the error of the first of these that a pair of the company cannot have."""
    check_person(company, one)
    check_person(company, other)
    if turn is not None and not is_turn(turn):
        raise InvalidOperation("the value is no turn")


def check_group(company, people):
    """Raise InvalidOperation for what is no ascending tuple of one or more people of the company."""
    if people == () or not is_some_of(people, company.people):
        raise InvalidOperation("the value is no ascending tuple of one or more people")
