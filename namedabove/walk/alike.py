"""Two ways to read: whether two rules put the same letters together in all lots of a company."""

from namedabove.base.companies import check_company
from namedabove.base.names import is_ascending
from namedabove.read.lots import Lot, together
from namedabove.read.rules import check_rule
from namedabove.talk.bundles import Bundle
from namedabove.walk.bases import Bases, bound_places, is_base, throughs
from namedabove.walk.paths import with_path
from namedabove.walk.views import Reading, Views, is_view


def check_rules(company, one, other):
    """Raise the error of the first of these that is none."""
    check_company(company)
    check_rule(one)
    check_rule(other)


def readings_of(company, one, other):
    """What the two rules bind."""
    return [Reading(throughs(company, rule), rule.sees_lost) for rule in (one, other)]


def find_unlike(company, one, other):
    """A lot with few letters of which just two came, and are together by one rule alone, or what shows that none is."""
    check_rules(company, one, other)
    bases, below, best = look_at(company, one, other)
    if best is not None:
        return lot_of(company, bases, below[best[1]], best[1], best[2])
    every = [view for base in bases for view in below[base]]
    return ("alike", tuple(sorted(list(bases))), tuple(sorted(every)))


def are_alike(company, one, other):
    """Whether in each lot of the company the same letters are together by both rules."""
    check_rules(company, one, other)
    _, _, best = look_at(company, one, other)
    return best is None


def look_at(company, one, other):
    """The shortest ways to all bases, to the views of each, and what shows with fewest letters that rules are unlike.

    That is a triple (letters, base, views), or None if they are alike.
    """
    views = Views(company)
    bases = views.bases()
    below = {base: views.views(base) for base in bases}
    readings = readings_of(company, one, other)
    best = None
    for base in bases:
        found = first_unlike(readings, base, below[base])
        if found is not None and (best is None or bases[base][0] + found[0] < best[0]):
            best = (bases[base][0] + found[0], base, found[1])
    return bases, below, best


def is_alike_paper(company, one, other, value):
    """Whether the value is such a lot with its letters, or such bases and views, whoever made them."""
    check_rules(company, one, other)
    if not isinstance(value, tuple) or value == ():
        return False
    word, *rest = value
    if word == "lot":
        return len(rest) == 3 and are_unlike(company, one, other, *rest)
    if word != "alike" or len(rest) != 2 or not are_forms(company, *rest) or not are_closed(company, *rest):
        return False
    readings = readings_of(company, one, other)
    bases, views = rest
    by_base = {base: {} for base in bases}
    for view in views:
        if view[0] not in by_base:
            by_base[view[0]] = {}
        by_base[view[0]][view] = (1,)
    return all([first_unlike(readings, base, by_base[base]) is None for base in by_base])


def binds_more(company, one, other):
    """Whether the second rule binds all marks that the first one binds, and sees lost marks if the first one does."""
    check_rules(company, one, other)
    if one.sees_lost and not other.sees_lost:
        return False
    here, there = throughs(company, one), throughs(company, other)
    for base in Bases(company).paths():
        bound = bound_places(there, base)
        if not all([place in bound for place in bound_places(here, base)]):
            return False
    return True


def first_unlike(readings, base, views):
    """The least pair (letters below, views) of one view or two that show letters with this base unlike; None without.

    A single view and the upper letter meet by one rule alone, or the lower letters of two views do.
    """
    nearest = {}
    for view in views:
        # Views stand in the order of their letters, and of those that bind the same the first one will do.
        bits = tuple([reading.of_view(view) for reading in readings])
        if bits not in nearest:
            nearest[bits] = (views[view][0], view)
    upper = [reading.of_base(base) for reading in readings]
    found = []
    for one in nearest:
        many, view = nearest[one]
        alone = [reading.meets(base, above, bits) for reading, above, bits in zip(readings, upper, one)]
        if alone[0] != alone[1]:
            found.append((many, (view,)))
        for other in nearest:
            both = [reading.do_meet(here, there) for reading, here, there in zip(readings, one, other)]
            if both[0] != both[1]:
                found.append((many + nearest[other][0], (view, nearest[other][1])))
    return min(found, default=None)


def lot_of(company, bases, below, base, views):
    """The lot of a letter with this base, and of shortest ways from there to the lower letters of one view or two."""
    letters = with_path([], bases, base, None)
    upper = len(letters) - 1
    came = [upper] if len(views) == 1 else []
    for view in views:
        letters = with_path(letters, below, view, upper)
        came.append(len(letters) - 1)
    return ("lot", Lot(Bundle.of_many(company, tuple(letters)), tuple(came)), came[0], came[1])


def are_unlike(company, one, other, lot, first, second):
    """Whether the values are a lot of the company, and two letters that are together by one rule alone."""
    if not isinstance(lot, Lot) or lot.bundle.company != company or first not in lot or second not in lot:
        return False
    return together(one, lot, first, second) != together(other, lot, first, second)


def are_forms(company, bases, views):
    """Whether the values are ascending tuples of bases and of views, whether or not some letter has them."""
    if not isinstance(bases, tuple) or not isinstance(views, tuple):
        return False
    if not all([is_base(company, base) for base in bases]) or not all([is_view(company, view) for view in views]):
        return False
    return is_ascending(bases) and is_ascending(views)


def are_closed(company, bases, views):
    """Whether bases and views are closed under one more letter."""
    ground = Views(company)
    here = {base: True for base in bases}
    there = {view: True for view in views}
    if not all([(person, 0) in here for person in company.starts]):
        return False
    for base in bases:
        if not all([near in here for near in ground.bases_upon(base)]):
            return False
        if not all([view in there for view, _, _ in ground.first(base)]):
            return False
    return all([near in there for view in views for near, _, _ in ground.steps(view)])
