"""A record of what an inbox does, straight from the words of [14.1] and stage 14, to compare with."""

from tests.plain_cutters import kept_by_parts


def some_arrival(chance, marks):
    """An arrival by chance with one of so many marks."""
    mark = chance.randrange(marks)
    likely = chance.choice((0.2, 0.5, 0.9))
    return (mark, chance.choice(("ann", "bob")), tuple(above for above in range(mark) if chance.random() < likely))


class Record:
    """An inbox as a list of all that it was: pairs of a rule and a dict of arrivals."""

    def __init__(self, rule):
        self.stands = [(rule, {})]
        self.undone = []

    @property
    def rule(self):
        return self.stands[-1][0]

    @property
    def arrivals(self):
        return self.stands[-1][1]

    @property
    def version(self):
        return len(self.stands) - 1

    def copy(self):
        other = Record(self.rule)
        other.stands, other.undone = list(self.stands), list(self.undone)
        return other

    def become(self, rule, arrivals):
        if rule != self.rule or arrivals != self.arrivals:
            self.stands.append((rule, arrivals))
            self.undone = []

    def receive(self, *told):
        new = {mark: (mark, *rest) for mark, *rest in told if mark not in self.arrivals}
        self.become(self.rule, {**self.arrivals, **new})
        return len(new)

    def undo(self, many):
        for _ in range(many):
            self.undone.append(self.stands.pop())

    def redo(self, many):
        for _ in range(many):
            self.stands.append(self.undone.pop())


def bound_of(rule, arrivals):
    return {mark: set(kept_by_parts(rule.cutter.parts, arrivals[mark][2])) for mark in arrivals}


def near_of(rule, arrivals):
    bound = bound_of(rule, arrivals)
    return {
        one: {
            other for other in arrivals
            if one != other and (one in bound[other] or other in bound[one] or (rule.sees_lost and bound[one] & bound[other]))
        }
        for one in arrivals
    }


def shown_of(rule, arrivals):
    bound = bound_of(rule, arrivals)
    return {mark: max((other for other in bound[mark] if other in arrivals), default=None) for mark in arrivals}


def group_of(near, mark):
    group = {mark}
    while True:
        more = group.union(*(near[letter] for letter in group))
        if more == group:
            return group
        group = more


def groups_of(rule, arrivals):
    near = near_of(rule, arrivals)
    return tuple(sorted({tuple(sorted(group_of(near, mark))) for mark in arrivals}))


def chain_of(rule, arrivals, first, second):
    """Of the shortest rows of neighbours the least."""
    near = near_of(rule, arrivals)
    rows = [(first,)]
    while rows:
        found = sorted(row for row in rows if row[-1] == second)
        if found:
            return found[0]
        seen = {mark for row in rows for mark in row}
        rows = [(*row, mark) for row in rows for mark in near[row[-1]] if mark not in seen]
    return None


def moves_of(record, mark):
    """How many deeds changed the place of a letter since it came."""
    places = [
        shown_of(rule, arrivals)[mark] for rule, arrivals in record.stands if mark in arrivals
    ]
    return sum(one != other for one, other in zip(places, places[1:]))
