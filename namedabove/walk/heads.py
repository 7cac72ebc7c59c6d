"""Heads of letters: the writer of a letter with the short form of its list, each known by a number."""

from namedabove.base.companies import MAX_PEOPLE
from namedabove.base.names import is_whole
from namedabove.walk.kinds import Kinds
from namedabove.walk.shorts import LOST, NO_MARKS, all_kept, colours_behind, is_short

COLOURS = 3


class Heads:
    """Numbers for the heads of letters, and for their states: those with one head differ by their colour alone.

    The number of a head tells its short form and its writer, that of a state its head and its colour.
    What was reckoned once is kept, so that nothing is reckoned twice on one walk.
    """

    def __init__(self, company, rule):
        self._people = company.people
        self._places = {person: at for at, person in enumerate(company.people)}
        self._starts = [self._places[person] for person in company.starts]
        self._colours = (0, 1) if rule.sees_lost else (0, 1, LOST)
        self._left_out = None if rule.sees_lost else LOST
        self._through = [rule.through(company, person) for person in company]
        self._kinds = Kinds(company)
        self._answers = [self._steps_from(person, False) for person in company]
        self._takings = [self._steps_from(person, True) for person in company]
        self._shorts = []
        self._numbers = {}
        self._texts = {}
        self._behind = [{} for _ in range(len(self._kinds.turns) * COLOURS)]
        self._with = {}
        self._losses = {}
        self._upon = {}
        self._number(NO_MARKS)

    def first(self):
        """The heads of letters upon none, ascending by their writers."""
        return list(self._starts)

    def states(self, head):
        """The tuple of pairs (state, loss) of the letters with this head, ascending by colours."""
        if head not in self._with:
            short, person = divmod(head, MAX_PEOPLE)
            kept = all_kept(self._through[person], self._shorts[short])
            found = []
            for own in self._colours:
                loss = 1 if own == LOST or 1 - own in kept else 0
                # If the rule does not see lost marks, no letter has a colour with which it may not come.
                if self._left_out is None or own == LOST or not loss:
                    found.append((head * COLOURS + own, loss))
                    self._losses[head * COLOURS + own] = loss
            self._with[head] = tuple(found)
        return self._with[head]

    def upon(self, state):
        """The heads of the letters that answer a letter in this state, and of those that take it."""
        if state not in self._upon:
            head, own = divmod(state, COLOURS)
            short, person = divmod(head, MAX_PEOPLE)
            takings = self._takings[person]
            answers = self._heads_behind(self._answers[person], short, own)
            self._upon[state] = (answers, self._heads_behind(takings, short, own) if takings else [])
        return self._upon[state]

    def is_end(self, state, people, colour):
        """Whether a letter of one of these people (by their numbers) may come in this state with this colour."""
        head, own = divmod(state, COLOURS)
        return own == colour and head % MAX_PEOPLE in people and self._losses[state] == 0

    def number_of(self, person):
        """The number of a person."""
        return self._places[person]

    def writer_of(self, state):
        """The name of the writer of a letter in this state."""
        return self._people[state // COLOURS % MAX_PEOPLE]

    def loss(self, state):
        """1 for a state in which a letter is lost, otherwise 0."""
        return self._losses[state]

    def told(self, state):
        """The triple (person, own, short) of a state."""
        head, own = divmod(state, COLOURS)
        short, person = divmod(head, MAX_PEOPLE)
        return self._people[person], own, self._shorts[short]

    def state_of(self, value):
        """The number of a state that is told as a triple; None for what is no state that is possible."""
        if not isinstance(value, tuple) or len(value) != 3:
            return None
        person, own, short = value
        if not isinstance(person, str) or person not in self._places or not is_whole(own):
            return None
        # Not every value can be a key, and 1 as a key is found by True, too; what is written of them differs.
        text = repr(short)
        if text not in self._texts:
            if not is_short(short, self._colours, self._left_out):
                return None
            self._texts[text] = self._number(short)
        head = self._texts[text] * MAX_PEOPLE + self._places[person]
        if head not in self._with:
            self.states(head)
        state = head * COLOURS + own
        return state if 0 <= own < COLOURS and state in self._losses else None

    def _steps_from(self, person, takes):
        """The pairs (number of the writer, number of the turn) of answers upon letters of a person, or of takings."""
        return [(self._places[other], kind) for other, taken, kind in self._kinds.by_person[person] if taken == takes]

    def _heads_behind(self, turns, short, own):
        """The heads of letters that are written with these turns upon one with this list and colour."""
        found = []
        for person, kind in turns:
            behind = self._behind[kind * COLOURS + own]
            if short not in behind:
                told = colours_behind(self._kinds.turns[kind], self._shorts[short], own)
                behind[short] = self._number(told) * MAX_PEOPLE
            found.append(behind[short] + person)
        return found

    def _number(self, short):
        """The number of a short form of colours."""
        if short not in self._numbers:
            self._numbers[short] = len(self._shorts)
            self._shorts.append(short)
        return self._numbers[short]
