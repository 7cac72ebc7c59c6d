"""Ways through states, or runs, that cost as little as can be, and the lots that they are ways of."""

from heapq import heappop, heappush

from namedabove.read.lots import Lot
from namedabove.talk.bundles import Bundle

# What a lost letter costs beside what each letter costs: so ways with few losses are cheaper than short ones.
LOSS = 1048576


class Queue:
    """Entries by their costs; many have the same, so only the different costs are kept in order."""

    def __init__(self):
        self.costs = []
        self._entries = {}

    def put(self, cost, entry):
        """Put in an entry, which costs more than all that was taken out."""
        if cost not in self._entries:
            self._entries[cost] = []
            heappush(self.costs, cost)
        self._entries[cost].append(entry)

    def take(self):
        """The least cost, and the list of all entries that cost so much."""
        cost = heappop(self.costs)
        return cost, self._entries.pop(cost)


class Net:
    """The nodes, states or runs, to which steps lead on a ground.

    A ground tells the heads of the first letters, for each head the pairs (node, loss) of the letters with
    it, and for each node the heads of the letters that answer and that take it.
    """

    def __init__(self, company, ground):
        self._company = company
        self._ground = ground
        self._seen = {head: True for head in ground.first()}
        self._with = {}
        self._losses = {}
        self._answers = {}
        self._all = {}
        self._heads = {}
        self._under = {}
        self._ends = {}
        self._reached = None
        self._onward = {}

    def grow(self, limit):
        """Find all nodes; False, as soon as there are more of them than the limit."""
        found = self._ground.first()
        while found:
            head = found.pop()
            nodes = self._ground.states(head)
            self._with[head] = nodes
            for node, loss in nodes:
                if node in self._losses:
                    self._heads[node].append(head)
                    continue
                if len(self._losses) == limit:
                    return False
                self._losses[node] = loss
                self._heads[node] = [head]
                found.extend(self._add_steps(node))
        return True

    def _add_steps(self, node):
        """Keep the heads upon a node, and return those that are new."""
        answers, takings = self._ground.upon(node)
        self._answers[node] = answers
        self._all[node] = answers + takings if takings else answers
        for head in answers:
            if head not in self._under:
                self._under[head] = []
            self._under[head].append(node)
        new = []
        for head in self._all[node]:
            if head not in self._seen:
                self._seen[head] = True
                new.append(head)
        return new

    def told(self):
        """The list of pairs of what is told of a node, ascending, and the node."""
        return sorted([(self._ground.told(node), node) for node in self._losses])

    def ends(self, people, colour):
        """The list of the nodes in which a letter of one of these people comes with this colour."""
        if (people, colour) not in self._ends:
            numbers = [self._ground.number_of(person) for person in people]
            ends = [node for node in self._losses if self._ground.is_end(node, numbers, colour)]
            self._ends[people, colour] = ends
        return self._ends[people, colour]

    def costs_to(self):
        """A dict from nodes to pairs (cost, node before) of the cheapest ways to them, themselves counted."""
        if self._reached is None:
            self._reached = self._find_costs_to()
        return self._reached

    def costs_from(self, people, colour):
        """A dict from nodes to pairs (cost, next node) of the cheapest ways by answers to ends, these counted alone.

        A node without a way to an end is no key.
        """
        if (people, colour) not in self._onward:
            self._onward[people, colour] = self._find_costs_from(self.ends(people, colour))
        return self._onward[people, colour]

    def _find_costs_to(self):
        """What costs_to tells."""
        reached = {}
        passed = {}
        queue = Queue()
        for head in self._ground.first():
            for node, loss in self._with[head]:
                queue.put(loss * LOSS + 1, (node, None))
        while queue.costs:
            cost, entries = queue.take()
            for node, before in entries:
                if node not in reached:
                    reached[node] = (cost, before)
                    for head in self._all[node]:
                        # The first way to a head is a cheapest one.
                        if head not in passed:
                            passed[head] = True
                            for near, loss in self._with[head]:
                                queue.put(cost + loss * LOSS + 1, (near, node))
        return reached

    def _find_costs_from(self, ends):
        """What costs_from tells for these ends."""
        onward = {}
        passed = {}
        queue = Queue()
        for end in ends:
            for head in self._heads[end]:
                queue.put(1, (head, end))
        while queue.costs:
            cost, entries = queue.take()
            for head, near in entries:
                if head not in passed:
                    passed[head] = True
                    for node in self._under.get(head, ()):
                        if node not in onward:
                            onward[node] = (cost, near)
                            for above in self._heads[node]:
                                queue.put(cost + self._losses[node] * LOSS + 1, (above, node))
        return onward

    def lot(self, way, branches):
        """The lot of a way, with branches behind its last node, and the mark of the last letter of each branch."""
        nodes = list(way)
        letters = []
        for at, node in enumerate(way):
            begins = at == 0 or not self._is_answer(way[at - 1], node)
            letters.append((self._ground.writer_of(node), None if at == 0 else at - 1, begins))
        lasts = []
        for branch in branches:
            upon = len(way) - 1
            for node in branch:
                nodes.append(node)
                letters.append((self._ground.writer_of(node), upon, False))
                upon = len(letters) - 1
            lasts.append(upon)
        came = tuple([mark for mark, node in enumerate(nodes) if not self._ground.loss(node)])
        return Lot(Bundle.of_many(self._company, tuple(letters)), came), lasts

    def _is_answer(self, upon, node):
        """Whether a letter in this node can answer one in the other node."""
        return any([head in self._answers[upon] for head in self._heads[node]])


def way_from(onward, node):
    """The nodes of the cheapest way from a node to an end, itself not among them."""
    way = []
    for _ in range(onward[node][0] % LOSS):
        node = onward[node][1]
        way.append(node)
    return way
