"""Ground words made one by equations, and chains that show why two are one."""

from heapq import heappop, heappush

from eithershown.forests import Forest
from eithershown.shortchains import shortest_chain

# How many rows a chain may have before a shorter one is looked for.
LONG_CHAIN = 60


class Closing:
    """The finest parting of nodes in which joined ones are together, and nodes of one head whose parts are.

    heads are names with lengths, parts lists of nodes. Of what could join two lots the way with the shortest chain is
    taken, so that most chains stay short.
    """

    def __init__(self, heads, parts):
        self.heads = heads
        self.parts = parts
        self.forest = Forest(len(heads))
        self.users = [[] for _ in heads]
        self.signs = {}
        self.links = []
        self.costs = []
        self.equations = []
        self.waiting = []
        self.count = 0
        for node, row in enumerate(parts):
            for part in row:
                self.users[part].append(node)
            self.take_sign(node)

    def are_together(self, one, other):
        return self.forest.are_together(one, other)

    def take_sign(self, node):
        """Joins a node with one that has like parts, or lets later ones find it."""
        sign = self.heads[node] + tuple([self.forest.roots[part] for part in self.parts[node]])
        other = self.signs.setdefault(sign, node)
        if not self.are_together(node, other):
            cost = sum([self.cost_between(one, two) for one, two in zip(self.parts[node], self.parts[other])])
            self.wait(cost, node, other, None)

    def cost_between(self, one, other):
        """How many rows the chain between two nodes has."""
        return sum([self.costs[label] for label, _ in self.forest.links_between(one, other)])

    def wait(self, cost, one, other, label):
        self.count += 1
        heappush(self.waiting, (cost, self.count, one, other, label))

    def equate(self, one, other, label):
        """Joins two nodes by an equation; it counts behind close."""
        self.equations.append((one, other, label))
        self.wait(1, one, other, label)

    def close(self):
        while len(self.waiting) > 0:
            cost, _, one, other, label = heappop(self.waiting)
            if not self.are_together(one, other):
                gone = self.forest.join(one, other, len(self.links))
                self.links.append((one, other, label))
                self.costs.append(cost)
                users = self.users[gone]
                for node in users:
                    self.take_sign(node)
                self.users[self.forest.roots[one]].extend(users)

    def chain(self, one, other):
        """The rows (label, way, place) that lead from a node to one that is together with it."""
        if self.cost_between(one, other) > LONG_CHAIN:
            return shortest_chain(self, one, other)
        return self.rows(one, other, [])

    def rows(self, one, other, place):
        """The rows of the chain by the links that joined both, at a place of both."""
        told = []
        for label, is_forward in self.forest.links_between(one, other):
            left, right, equation = self.links[label]
            if not is_forward:
                left, right = right, left
            if equation is not None:
                told.append((equation, is_forward, list(place)))
            else:
                for index in range(len(self.parts[left])):
                    told.extend(self.rows(self.parts[left][index], self.parts[right][index], place + [index]))
        return told
