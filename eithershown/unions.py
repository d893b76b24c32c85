"""Words made one with one another, as numbers joined in a forest."""

from eithershown.forests import Forest


class Union:
    """All parts of the words of pairs as nodes, each variable as one, joined as the pairs demand.

    heads are names with their lengths, None for variables; links are triples (node, node, reason), a reason being
    ("given", index), or ("part", node, node, index) of two nodes that were joined ahead.
    """

    def __init__(self, pairs):
        self.words = []
        self.heads = []
        self.parts = []
        self.variables = {}
        self.links = []
        ends = [(self.node_of(one), self.node_of(other)) for one, other in pairs]
        self.forest = Forest(len(self.words))
        # Of each root the node by whose parts its words are built, None while there are only variables.
        self.models = [None if self.heads[node] is None else node for node in range(len(self.words))]
        self.clash = self.join_all([(one, other, ("given", index)) for index, (one, other) in enumerate(ends)])

    def node_of(self, word):
        """A node for a word, those of its parts behind it."""
        if isinstance(word, str) and word in self.variables:
            return self.variables[word]
        node = len(self.words)
        self.words.append(word)
        if isinstance(word, str):
            self.variables[word] = node
            self.heads.append(None)
            self.parts.append([])
            return node
        self.heads.append((word[0], len(word)))
        self.parts.append([])
        for part in word[1:]:
            below = self.node_of(part)
            self.parts[node].append(below)
        return node

    def join_all(self, waiting):
        """Joins what must be one; returns two nodes of unlike heads that must be one, None if there are none."""
        at = 0
        while at < len(waiting):
            one, other, reason = waiting[at]
            at += 1
            if not self.forest.are_together(one, other):
                left, right = self.models[self.forest.roots[one]], self.models[self.forest.roots[other]]
                self.forest.join(one, other, len(self.links))
                self.links.append((one, other, reason))
                self.models[self.forest.roots[one]] = right if left is None else left
                if left is not None and right is not None:
                    if self.heads[left] != self.heads[right]:
                        return left, right
                    for index in range(len(self.parts[left])):
                        link = (self.parts[left][index], self.parts[right][index], ("part", left, right, index))
                        waiting.append(link)
        return None

    def roots_below(self, root):
        """The roots of the parts by which the words of a root are built."""
        model = self.models[root]
        return [] if model is None else [self.forest.roots[part] for part in self.parts[model]]

    def ordered_roots(self):
        """A pair: all roots, each behind those below it, and no ring; or None and a ring of pairs (root, index of
        the part that leads to the next one)."""
        done = {}
        told = []
        for start in range(len(self.words)):
            way = [] if self.forest.roots[start] in done else [(self.forest.roots[start], 0)]
            on_way = {root: 0 for root, _ in way}
            while len(way) > 0:
                root, index = way.pop()
                below = self.roots_below(root)
                if index == len(below):
                    del on_way[root]
                    done[root] = True
                    told.append(root)
                    continue
                way.append((root, index + 1))
                if below[index] in on_way:
                    return None, [(ring, later - 1) for ring, later in way[on_way[below[index]]:]]
                if below[index] not in done:
                    on_way[below[index]] = len(way)
                    way.append((below[index], 0))
        return told, None

    def ring_links(self, ring):
        """A list of pairs of nodes, a variable and a word that must be one, the next one's variable in the word, the
        first one's in the last word. A ring of roots has a variable somewhere, as words are finite."""
        at = 0
        # What is told ahead of the first variable is cut off, as the way comes back to a variable.
        node = self.models[ring[0][0]]
        told = []
        stood = []
        while node not in stood:
            stood.append(node)
            model = self.models[ring[at][0]]
            told.append((node, model))
            node = model
            while self.heads[node] is not None:
                node = self.parts[node][ring[at][1]]
                at = 0 if at + 1 == len(ring) else at + 1
        return told[stood.index(node):]

    def why(self):
        """None if all can be one; else a pair ("clash", two nodes), or ("ring", list of pairs of nodes)."""
        if self.clash is not None:
            return ("clash", [self.clash])
        ring = self.ordered_roots()[1]
        return None if ring is None else ("ring", self.ring_links(ring))

    def built(self):
        """The word that each variable becomes."""
        words = {}
        for root in self.ordered_roots()[0]:
            if self.models[root] is None:
                words[root] = min([self.words[node] for node in self.forest.members[root]])
            else:
                model = self.models[root]
                parts = [words[self.forest.roots[part]] for part in self.parts[model]]
                words[root] = (self.words[model][0],) + tuple(parts)
        return {variable: words[self.forest.roots[self.variables[variable]]] for variable in self.variables}
