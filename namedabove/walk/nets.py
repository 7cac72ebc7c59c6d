"""Ways through states, or runs, that cost as little as can be, and the lots that they are ways of."""

from heapq import heapify, heappop, heappush

from namedabove.read.lots import Lot
from namedabove.talk.bundles import Bundle


def nearest(seeds, edges):
    """What the cheapest ways cost: a dict from nodes to triples (losses, letters, node before).

    Seeds are such a dict to begin with; edges tell for each node the pairs (node, losses of one letter more).
    Of ways with as few losses those with the fewest letters are told.
    """
    found = dict(seeds)
    queue = [(seeds[node][0], seeds[node][1], node) for node in seeds]
    heapify(queue)
    while queue:
        losses, letters, node = heappop(queue)
        if found[node][0] != losses or found[node][1] != letters:
            continue
        for near, loss in edges[node]:
            cost = (losses + loss, letters + 1)
            if near not in found or cost < (found[near][0], found[near][1]):
                found[near] = (losses + loss, letters + 1, node)
                heappush(queue, (losses + loss, letters + 1, near))
    return found


class Net:
    """Nodes to which steps lead from the first ones: each has a state, its steps, and what a way costs by it.

    `after` tells all steps of each node, `within` those by answers alone; `places` tells (state, loss) of each.
    """

    def __init__(self, walk, first, after, within, places):
        self._walk = walk
        self._first = first
        self._after = after
        self._within = within
        self._places = places

    def nodes(self):
        """The ascending tuple of all nodes."""
        return tuple(sorted(list(self._after)))

    def ends(self, person, colour):
        """A dict of the nodes in which a letter of this person comes with this colour."""
        return {node: True for node in self._after if is_end(self._walk, person, colour, self._places[node][0])}

    def costs_to(self):
        """For each node what the cheapest way to it costs, itself counted."""
        seeds = {node: (self._places[node][1], 1, None) for node in self._first}
        edges = {node: [(step, self._places[step][1]) for step in self._after[node]] for node in self._after}
        return nearest(seeds, edges)

    def costs_from(self, ends):
        """For each node from which answers lead to an end what the cheapest way there costs, itself not counted."""
        seeds = {}
        edges = {node: [] for node in self._within}
        for node in self._within:
            for step in self._within[node]:
                edges[step].append((node, self._places[step][1]))
                if step in ends:
                    seeds[node] = (0, 1, step)
        return nearest(seeds, edges)

    def lot(self, way, branches):
        """The lot of a way, with branches behind its last node, and the mark of the last letter of each branch."""
        nodes = list(way)
        letters = []
        for at, node in enumerate(way):
            begins = at == 0 or node not in self._within[way[at - 1]]
            letters.append((self._places[node][0][0], None if at == 0 else at - 1, begins))
        lasts = []
        for branch in branches:
            upon = len(way) - 1
            for node in branch:
                nodes.append(node)
                letters.append((self._places[node][0][0], upon, False))
                upon = len(letters) - 1
            lasts.append(upon)
        came = [mark for mark, node in enumerate(nodes) if self._walk.comes(self._places[node][0])]
        return Lot(Bundle.of_many(self._walk.company, tuple(letters)), tuple(came)), lasts


def is_end(walk, person, colour, state):
    """Whether the state is that of a letter of this person that may come with this colour."""
    return state[0] == person and state[1] == colour and walk.comes(state)


def way_to(reached, node):
    """The nodes of the cheapest way to a node, itself the last one."""
    way = []
    while node is not None:
        way.append(node)
        node = reached[node][2]
    return way[::-1]


def way_from(onward, node):
    """The nodes of the cheapest way from a node to an end, itself not among them."""
    way = []
    for _ in range(onward[node][1]):
        node = onward[node][2]
        way.append(node)
    return way


def cheapest(reached, branches, nodes):
    """The least triple (losses, letters, node) for a way to a node and branches from there; None without one."""
    best = None
    for node in nodes:
        if all([node in branch for branch in branches]):
            losses = reached[node][0] + sum([branch[node][0] for branch in branches])
            letters = reached[node][1] + sum([branch[node][1] for branch in branches])
            if best is None or (losses, letters, node) < best:
                best = (losses, letters, node)
    return best
