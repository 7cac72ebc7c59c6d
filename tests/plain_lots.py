"""What lots tell, once more straight from the words of [0.14], [0.15], [8.1] and [9.1], to compare with."""

from namedabove.read.lots import Lot
from namedabove.talk.bundles import Bundle
from tests.plain_talks import plain_bound, plain_talk, plain_way, some_company, some_letters


def some_lot(chance, many=None, company=None):
    """A lot by chance, of a company by chance if none is told."""
    company = company or some_company(chance)
    letters = some_letters(chance, company, many or chance.choice((2, 5, 9, 14)))
    likely = chance.choice((0.3, 0.6, 0.9))
    return Lot(Bundle(company, *letters), tuple(mark for mark in range(len(letters)) if chance.random() < likely))


def bound_sets(rule, lot):
    bundle = lot.bundle
    return {mark: set(plain_bound(rule, bundle.company, bundle.letters, mark)) for mark in lot.came}


def plain_neighbours(rule, lot):
    """For each letter that came the set of its neighbours."""
    bound = bound_sets(rule, lot)
    return {
        one: {
            other for other in lot.came
            if one != other and (one in bound[other] or other in bound[one] or (rule.sees_lost and bound[one] & bound[other]))
        }
        for one in lot.came
    }


def plain_group(rule, lot, mark):
    near = plain_neighbours(rule, lot)
    group = {mark}
    while True:
        more = group.union(*(near[letter] for letter in group))
        if more == group:
            return group
        group = more


def plain_shown(rule, lot):
    bound = bound_sets(rule, lot)
    return {mark: max((other for other in bound[mark] if other in lot.came), default=None) for mark in lot.came}


def is_plain_chain(rule, lot, first, second, value):
    if not isinstance(value, tuple) or not value or value[0] != first or value[-1] != second:
        return False
    if any(not isinstance(mark, int) or isinstance(mark, bool) or mark not in lot.came for mark in value):
        return False
    if len(set(value)) < len(value):
        return False
    near = plain_neighbours(rule, lot)
    return all(later in near[mark] for mark, later in zip(value, value[1:]))


def is_plain_colouring(rule, lot, first, second, value):
    marks = range(len(lot.bundle)) if rule.sees_lost else lot.came
    if not isinstance(value, dict) or set(value) != set(marks) or any(isinstance(mark, bool) for mark in value):
        return False
    if any(isinstance(colour, bool) or colour not in (0, 1) for colour in value.values()):
        return False
    bound = bound_sets(rule, lot)
    return value[first] == 0 and value[second] == 1 and all(
        value[mark] == value[letter] for letter in lot.came for mark in bound[letter] if mark in value
    )


def plain_row_of_losses(lot, mark):
    way = "".join("+" if above in lot.came else "-" for above in plain_way(lot.bundle.letters, mark))
    return max(map(len, way.split("+")))


def is_plain_parting(rule, company, one, other, kin, lot, first, second):
    """Whether two letters of a lot are a parting of two people."""
    letters = lot.bundle.letters
    if lot.bundle.company != company or first not in lot.came or second not in lot.came:
        return False
    if (letters[first][0], letters[second][0]) != (one, other) or plain_talk(letters, first) != plain_talk(letters, second):
        return False
    above = first in plain_way(letters, second)
    beside = first != second and not above and second not in plain_way(letters, first)
    return (above if kin == "above" else beside) and second not in plain_group(rule, lot, first)
