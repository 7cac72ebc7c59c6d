"""How letters that came hang together; bound is always a dict from their marks to the marks bound to them."""


def binders_of(bound):
    """For each mark that is bound to a letter, the list of the letters that it is bound to."""
    binders = {}
    for letter in bound:
        for mark in bound[letter]:
            if mark not in binders:
                binders[mark] = []
            binders[mark].append(letter)
    return binders


def are_near(sees_lost, bound, one, other):
    """Whether two different letters are neighbours."""
    if one in bound[other] or other in bound[one]:
        return True
    there = {mark: True for mark in bound[other]}
    return sees_lost and any([mark in there for mark in bound[one]])


def near_by_lost(bound, binders, letter, passed):
    """The letters that share a mark with a letter, its own one counted, which was not passed before."""
    near = []
    for mark in (*bound[letter], letter):
        if mark not in passed:
            # All letters at this mark are neighbours of one another, so it need not be looked at again.
            passed[mark] = True
            near.extend(binders.get(mark, ()))
            if mark in bound:
                near.append(mark)
    return near


def near_by_came(bound, binders, letter):
    """The letters that are bound to a letter, and those that it is bound to."""
    return [*[mark for mark in bound[letter] if mark in bound], *binders.get(letter, ())]


def near_of(sees_lost, bound, binders, letter):
    """The ascending tuple of the neighbours of a letter."""
    near = near_by_lost(bound, binders, letter, {}) if sees_lost else near_by_came(bound, binders, letter)
    return tuple(sorted({other for other in near if other != letter}))


def spread(sees_lost, bound, binders, first):
    """The letters that rows of neighbours lead to from the first one, each with the one before it.

    The rows are as short as can be, and letters with shorter rows come first.
    """
    before = {first: None}
    passed = {}
    found = [first]
    at = 0
    while at < len(found):
        letter = found[at]
        near = near_by_lost(bound, binders, letter, passed) if sees_lost else near_by_came(bound, binders, letter)
        for other in near:
            if other not in before:
                before[other] = letter
                found.append(other)
        at += 1
    return before


def all_groups(sees_lost, bound):
    """The tuple of the groups of letters that are together, ordered by their first marks."""
    binders = binders_of(bound)
    seen = {}
    found = []
    for letter in sorted(list(bound)):
        if letter not in seen:
            group = spread(sees_lost, bound, binders, letter)
            seen.update(group)
            found.append(tuple(sorted(list(group))))
    return tuple(found)


def chain_between(sees_lost, bound, first, second):
    """A shortest row of neighbours from the first letter to the second one; None if they are apart."""
    before = spread(sees_lost, bound, binders_of(bound), first)
    if second not in before:
        return None
    row = [second]
    while row[-1] != first:
        row.append(before[row[-1]])
    return tuple(row[::-1])


def least_chain(sees_lost, bound, binders, first, second):
    """Of the shortest rows of neighbours from the first letter to the second one the least; None if they are apart."""
    before = spread(sees_lost, bound, binders, second)
    if first not in before:
        return None
    far = {}
    for letter in before:
        far[letter] = 0 if before[letter] is None else far[before[letter]] + 1
    row = [first]
    while row[-1] != second:
        nearer = [mark for mark in near_of(sees_lost, bound, binders, row[-1]) if far[mark] < far[row[-1]]]
        row.append(nearer[0])
    return tuple(row)
