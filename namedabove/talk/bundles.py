"""Bundles: rows of letters, each upon an earlier one or upon none, with their lists of marks."""

from namedabove.base.companies import check_company, check_person
from namedabove.base.cutters import cut
from namedabove.base.names import is_mark_below, is_marks_below
from namedabove.errors import InvalidBundle, InvalidOperation, UnknownName

MAX_LETTERS = 40


def is_letter(company, letters, at):
    """Whether the value at this index is a letter that can stand behind those before it."""
    letter = letters[at]
    if not isinstance(letter, tuple) or len(letter) != 3:
        return False
    writer, upon, begins = letter
    if writer not in company.people or not isinstance(begins, bool):
        return False
    if upon is None:
        return begins and writer in company.starts
    return is_mark_below(upon, at) and company.turn(letters[upon][0], writer, takes=begins) is not None


def check_letters(company, letters):
    """Raise InvalidBundle for the first value that is no letter, or for too many."""
    for at in range(len(letters)):
        if at >= MAX_LETTERS:
            raise InvalidBundle(f"more than {MAX_LETTERS} letters")
        if not is_letter(company, letters, at):
            raise InvalidBundle(f"the value at {at} is no letter that can stand there")


def list_behind(turn, row, mark):
    """The list of a letter that is written with a turn upon the letter of this mark, which has this list."""
    road, adds, cutter = turn
    row = cut(road, row)
    if adds:
        row = (*row, mark)
    return cut(cutter, row)


def told_of(company, row, lists, above, begun, mark):
    """The list, the copy, the way and the talk of a letter, by the letters and what is told of earlier ones."""
    writer, upon, begins = row[mark]
    if upon is None:
        return (), (), (), mark
    turn = company.turn(row[upon][0], writer, takes=begins)
    marks = list_behind(turn, lists[upon], upon)
    return marks, cut(company.road_to_reader(writer), marks), (*above[upon], upon), mark if begins else begun[upon]


class Pile:
    """A row of letters with the tuples of their lists, copies, ways and talks; it never changes."""

    def __init__(self, row, lists, cuts, above, begun):
        self.row = row
        self.lists = lists
        self.cuts = cuts
        self.above = above
        self.begun = begun


def pile_of(company, row):
    """The pile of a tuple of what is known to be letters of the company."""
    lists = []
    cuts = []
    above = []
    begun = []
    for mark in range(len(row)):
        marks, some, way, talk = told_of(company, row, lists, above, begun, mark)
        lists.append(marks)
        cuts.append(some)
        above.append(way)
        begun.append(talk)
    return Pile(row, tuple(lists), tuple(cuts), tuple(above), tuple(begun))


def pile_with(company, pile, letter):
    """The pile with one more letter; InvalidBundle for what can be none."""
    mark = len(pile.row)
    row = (*pile.row, letter)
    if mark >= MAX_LETTERS or not is_letter(company, row, mark):
        raise InvalidBundle("the value is no letter that can stand there, or one too many")
    marks, some, way, talk = told_of(company, row, pile.lists, pile.above, pile.begun, mark)
    return Pile(row, (*pile.lists, marks), (*pile.cuts, some), (*pile.above, way), (*pile.begun, talk))


class Bundle:
    """A row of letters of a company; it never changes."""

    def __init__(self, company, *letters):
        check_company(company)
        self._company = company
        if len(letters) == 1 and isinstance(letters[0], Pile):
            # Letters that are known already, with what is told of them: nothing is looked at or reckoned anew.
            self._pile = letters[0]
        else:
            check_letters(company, letters)
            self._pile = pile_of(company, letters)

    @classmethod
    def of(cls, company, letters):
        """The bundle of the letters of a tuple."""
        check_company(company)
        if not isinstance(letters, tuple):
            raise InvalidBundle("the letters are no tuple")
        return cls(company, *letters)

    @classmethod
    def of_many(cls, company, letters):
        """The bundle of a tuple of what is known to be letters of the company, more than forty, too."""
        return cls(company, pile_of(company, letters))

    @property
    def company(self):
        """The company whose people write the letters."""
        return self._company

    @property
    def letters(self):
        """The tuple of the letters."""
        return self._pile.row

    def __getitem__(self, at):
        check_mark(self, at)
        return self._pile.row[at]

    def list_of(self, mark):
        """The list of marks of a letter."""
        check_mark(self, mark)
        return self._pile.lists[mark]

    def copy_of(self, mark):
        """What the road from its writer to the reader keeps of the list of a letter."""
        check_mark(self, mark)
        return self._pile.cuts[mark]

    def way_of(self, mark):
        """The ascending tuple of the marks of the letters above a letter."""
        check_mark(self, mark)
        return self._pile.above[mark]

    def talk_of(self, mark):
        """The mark of the first letter of the talk of a letter."""
        check_mark(self, mark)
        return self._pile.begun[mark]

    def __add__(self, other):
        return Bundle(self._company, pile_with(self._company, self._pile, other))

    def answered(self, mark, writer):
        """The bundle with a letter of a writer that answers a letter."""
        check_mark(self, mark)
        check_person(self._company, writer)
        return self + (writer, mark, False)

    def taken(self, mark, writer):
        """The bundle with a letter of a writer that takes a letter for a new talk."""
        check_mark(self, mark)
        check_person(self._company, writer)
        return self + (writer, mark, True)

    def ways(self, marks):
        """The bundle of these letters and those of their ways, with the marks that all these have here."""
        if not is_marks_below(marks, len(self._pile.row)):
            raise InvalidOperation("the value is no ascending tuple of marks of the bundle")
        told = {above: True for mark in marks for above in (*self.way_of(mark), mark)}
        old = tuple(sorted(list(told)))
        new = {mark: at for at, mark in enumerate(old)}
        letters = []
        for mark in old:
            writer, upon, begins = self._pile.row[mark]
            letters.append((writer, None if upon is None else new[upon], begins))
        return Bundle.of_many(self._company, tuple(letters)), old

    def talks(self):
        """The ascending tuple of the first marks of the talks."""
        return tuple([mark for mark, letter in enumerate(self._pile.row) if letter[2]])

    def parting(self, first, second):
        """The last letter that both letters have on their ways, or that one of them is itself."""
        ways = {mark: True for mark in (*self.way_of(first), first)}
        shared = [mark for mark in (*self.way_of(second), second) if mark in ways]
        return shared[-1] if shared else None

    def __len__(self):
        return len(self._pile.row)

    def __iter__(self):
        return iter(self._pile.row)

    def __eq__(self, other):
        if not isinstance(other, Bundle):
            return False
        return self._company == other._company and self._pile.row == other._pile.row

    def __str__(self):
        return f"bundle of {len(self._pile.row)} letters, {len(self.talks())} talks"


def check_bundle(value):
    """Raise InvalidBundle for what is no bundle."""
    if not isinstance(value, Bundle):
        raise InvalidBundle("the value is no bundle")


def check_mark(bundle, mark):
    """Raise UnknownName for what is no mark of a letter of the bundle."""
    if not is_mark_below(mark, len(bundle.letters)):
        raise UnknownName(mark)
