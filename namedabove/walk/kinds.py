"""The turns of a company by numbers: most pairs of people have turns that others have, too."""


class Kinds:
    """The different turns, and for each of the people who writes upon letters of theirs with which turn."""

    def __init__(self, company):
        self.turns = []
        self._numbers = {}
        self.by_person = {person: self._turns_from(company, person) for person in company}

    def _turns_from(self, company, person):
        """The triples (writer, whether it is a taking, number of the turn) for letters upon those of a person."""
        found = []
        for other in company:
            for takes in (False, True):
                turn = company.turn(person, other, takes=takes)
                if turn is not None:
                    found.append((other, takes, self._number(turn)))
        return found

    def _number(self, turn):
        """The number of a turn."""
        road, adds, cutter = turn
        key = (road.parts, adds, cutter.parts)
        if key not in self._numbers:
            self._numbers[key] = len(self.turns)
            self.turns.append(turn)
        return self._numbers[key]
