"""Numbers joined by links: which are together, and by which links."""


class Forest:
    """Numbers from 0 on, each alone at first; the links between two of them are found by going up to a common one."""

    def __init__(self, many):
        self.roots = list(range(many))
        self.members = [[at] for at in range(many)]
        self.ups = [None] * many

    def are_together(self, one, other):
        return self.roots[one] == self.roots[other]

    def turn_upside(self, node):
        """Makes a node the uppermost one of its tree: all links above it are turned."""
        at, link = node, None
        while at is not None:
            above = self.ups[at]
            self.ups[at] = link
            link = None if above is None else (at, above[1], not above[2])
            at = None if above is None else above[0]

    def join(self, one, other, label):
        """Links two that are apart, the lesser lot to the greater one; returns the root that is none any more."""
        is_forward = len(self.members[self.roots[one]]) <= len(self.members[self.roots[other]])
        low, high = (one, other) if is_forward else (other, one)
        gone, kept = self.roots[low], self.roots[high]
        self.turn_upside(low)
        self.ups[low] = (high, label, is_forward)
        for node in self.members[gone]:
            self.roots[node] = kept
        self.members[kept].extend(self.members[gone])
        return gone

    def links_up(self, node):
        """The nodes from a node up, and the links between them."""
        nodes, links = [node], []
        while self.ups[nodes[-1]] is not None:
            above, label, is_forward = self.ups[nodes[-1]]
            nodes.append(above)
            links.append((label, is_forward))
        return nodes, links

    def links_between(self, one, other):
        """The labels of the links that lead from one to another one that is together with it, each with whether the
        way goes from the first of both that it joined to the second."""
        nodes, links = self.links_up(one)
        other_nodes, other_links = self.links_up(other)
        at, other_at = len(nodes) - 1, len(other_nodes) - 1
        while at > 0 and other_at > 0 and nodes[at - 1] == other_nodes[other_at - 1]:
            at -= 1
            other_at -= 1
        return links[:at] + [(label, not is_forward) for label, is_forward in other_links[:other_at][::-1]]
