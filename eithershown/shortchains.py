"""The shortest chains between ground words that equations make one."""

from heapq import heappop, heappush


class ShortChains:
    """Finds pairs of nodes with the lengths of their shortest chains, the shortest ones first.

    A pair is one link, an equation or two words of one head whose parts are pairs, or a pair with a link behind.
    """

    def __init__(self, closing):
        self.parts = closing.parts
        self.waiting = []
        self.count = 0
        self.costs = {}
        self.ways = {}
        self.links = [{} for _ in closing.heads]
        # For each pair of parts the pairs of words that wait for it, for each of these how many parts it waits for.
        self.users = {}
        self.missing = {}
        for one, other, label in closing.equations:
            self.wait(1, one, other, (label, one))
        for lot in self.like_lots(closing):
            for at, one in enumerate(lot):
                for other in lot[at + 1:]:
                    self.watch_parts(one, other)

    def like_lots(self, closing):
        """The nodes with parts in lists of those that have one head and whose parts are together."""
        lots = {}
        for node, row in enumerate(closing.parts):
            if len(row) > 0:
                sign = closing.heads[node] + tuple([closing.forest.roots[part] for part in row])
                lots.setdefault(sign, []).append(node)
        return [lots[sign] for sign in lots]

    def unlike_parts(self, one, other):
        """The pairs of parts that are not the same node, each with the lesser node ahead."""
        pairs = [(left, right) for left, right in zip(self.parts[one], self.parts[other]) if left != right]
        return [(min(pair), max(pair)) for pair in pairs]

    def watch_parts(self, one, other):
        pairs = sorted(set(self.unlike_parts(one, other)))
        self.missing[(one, other)] = len(pairs)
        for pair in pairs:
            self.users.setdefault(pair, []).append((one, other))

    def wait(self, cost, one, other, way):
        pair = (min(one, other), max(one, other))
        if one != other and (pair not in self.costs or cost < self.costs[pair]):
            self.costs[pair] = cost
            self.count += 1
            heappush(self.waiting, (cost, self.count, pair, way))

    def search(self, one, other):
        """Takes pairs until the pair of these two nodes, which are together, is found."""
        goal = (min(one, other), max(one, other))
        while goal not in self.ways:
            cost, _, pair, way = heappop(self.waiting)
            if pair not in self.ways:
                self.ways[pair] = way
                self.take(cost, pair[0], pair[1], way)

    def take(self, cost, one, other, way):
        """What follows of a pair: with links behind it, and for users of parts. The link of a way that is found last
        needs no pairs ahead: it is a pair itself, to which all others are put."""
        for near, far in ((one, other), (other, one)):
            for node in self.links[far]:
                self.wait(cost + self.links[far][node], near, node, (near, far, node))
        if len(way) == 2:
            self.links[one][other] = cost
            self.links[other][one] = cost
        for user in self.users.get((one, other), []):
            self.missing[user] -= 1
            if self.missing[user] == 0:
                costs = [self.costs[pair] for pair in self.unlike_parts(user[0], user[1])]
                self.wait(sum(costs), user[0], user[1], (None, user[0]))

    def links_between(self, one, other):
        """The links of the shortest chain: triples (node, node, way)."""
        told = []
        left, right = one, other
        ends = []
        while left != right:
            way = self.ways[(min(left, right), max(left, right))]
            if len(way) == 2:
                told.append((left, right, way))
                left = right
            elif way[0] == left:
                # The link is the last one of the way that is left.
                ends.append((way[1], right, self.ways[(min(way[1], right), max(way[1], right))]))
                right = way[1]
            else:
                told.append((left, way[1], self.ways[(min(left, way[1]), max(left, way[1]))]))
                left = way[1]
        return told + ends[::-1]

    def rows(self, one, other, place):
        """The rows (label, way, place) of the shortest chain."""
        told = []
        for left, right, way in self.links_between(one, other):
            if way[0] is not None:
                told.append((way[0], way[1] == left, list(place)))
            else:
                for index in range(len(self.parts[left])):
                    told.extend(self.rows(self.parts[left][index], self.parts[right][index], place + [index]))
        return told


def shortest_chain(closing, one, other):
    chains = ShortChains(closing)
    if one != other:
        chains.search(one, other)
    return chains.rows(one, other, [])
