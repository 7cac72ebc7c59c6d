"""What companies and bundles tell, once more straight from the words of [0.9] to [0.13], to compare with."""

from namedabove.base.companies import Company
from namedabove.base.cutters import Cutter
from namedabove.read.rules import Rule
from tests.plain_cutters import SOME_PARTS, kept_by_parts

NAMES = ("ann", "bob", "cyd", "dan")


def some_cutter(chance, keeping=0.4):
    """A cutter by chance; with few parts, for those with many keep little."""
    if chance.random() < keeping:
        return Cutter(*["all"] * chance.randrange(3))
    return Cutter(*[chance.choice(SOME_PARTS) for _ in range(chance.choice((1, 1, 1, 2, 2, 3)))])


def some_turn(chance):
    return (some_cutter(chance, 0.7), chance.random() < 0.9, some_cutter(chance))


def some_turns(chance, people, often):
    return {(one, other): some_turn(chance) for one in people for other in people if chance.random() < often}


def some_company(chance, many=None, answers=0.6, takings=0.2):
    people = NAMES[:many or chance.randint(1, 4)]
    return Company(
        people,
        some_turns(chance, people, answers),
        takings=some_turns(chance, people, takings),
        starts=tuple(person for person in people if chance.random() < 0.7) or people[-1:],
        copies={person: some_cutter(chance, 0.6) for person in people if chance.random() < 0.5},
    )


def some_rule(chance):
    return Rule(some_cutter(chance), sees_lost=chance.random() < 0.5)


def possible_letters(company, letters):
    """All letters that can stand behind these."""
    told = [(person, None, True) for person in company.starts]
    for upon, letter in enumerate(letters):
        for begins, turns in ((False, company.answers), (True, company.takings)):
            told += [(other, upon, begins) for one, other in turns if one == letter[0]]
    return told


def rows_that_grow(company, many, may_follow):
    """The rows of up to so many letters that hang together, in which each letter may follow those before it."""
    rows = [((person, None, True),) for person in company.starts]
    found = []
    while rows:
        found += rows
        rows = [
            (*row, letter) for row in rows if len(row) < many for letter in possible_letters(company, row)
            if letter[1] is not None and may_follow(row, letter)
        ]
    return found


def some_letters(chance, company, many):
    """So many letters by chance, rather upon late ones than upon early ones."""
    letters = []
    for _ in range(many):
        told = possible_letters(company, letters)
        late = [letter for letter in told if letter[1] is not None and letter[1] >= len(letters) - 3]
        pool = late if late and chance.random() < 0.8 else told
        if not pool:
            break
        letters.append(chance.choice(pool))
    return tuple(letters)


def plain_way(letters, mark):
    upon = letters[mark][1]
    return [] if upon is None else plain_way(letters, upon) + [upon]


def plain_talk(letters, mark):
    above = [mark, *reversed(plain_way(letters, mark))]
    return next(letter for letter in above if letters[letter][2])


def plain_list(company, letters, mark):
    writer, upon, begins = letters[mark]
    if upon is None:
        return ()
    turns = company.takings if begins else company.answers
    road, adds, cutter = turns[letters[upon][0], writer]
    row = kept_by_parts(road.parts, plain_list(company, letters, upon))
    return kept_by_parts(cutter.parts, row + (upon,) if adds else row)


def plain_copy(company, letters, mark):
    return kept_by_parts(company.copies[letters[mark][0]].parts, plain_list(company, letters, mark))


def plain_bound(rule, company, letters, mark):
    return kept_by_parts(rule.cutter.parts, plain_copy(company, letters, mark))
