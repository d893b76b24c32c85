"""The rows of papers that show why words can not be made one."""


def links_needed(union, pairs):
    """The numbers of all links on which these pairs of nodes hang, ascending."""
    needed = {}
    work = list(pairs)
    while len(work) > 0:
        one, other = work.pop()
        for label, _ in union.forest.links_between(one, other):
            if label not in needed:
                needed[label] = True
                reason = union.links[label][2]
                if reason[0] == "part":
                    work.append((reason[1], reason[2]))
    return sorted(needed)


class RowMaker:
    """Writes rows for pairs of nodes that are together, each pair once."""

    def __init__(self, joint):
        self.joint = joint
        self.rows = []
        self.stood = {}

    def row(self, one, other, reason):
        """The index of the row that says that two nodes must be one."""
        if (one, other) not in self.stood:
            self.stood[(one, other)] = len(self.rows)
            self.rows.append((self.joint.words[one], self.joint.words[other], reason))
        return self.stood[(one, other)]

    def link_row(self, label):
        """The row of a link, those that it hangs on standing ahead."""
        one, other, reason = self.joint.links[label]
        if reason[0] == "part":
            reason = ("part", self.row_between(reason[1], reason[2]), reason[3])
        return self.row(one, other, reason)

    def row_between(self, one, other):
        told = None
        for label, is_forward in self.joint.forest.links_between(one, other):
            left, right, _ = self.joint.links[label]
            row = self.stood[(left, right)]
            if not is_forward:
                row = self.row(right, left, ("turned", row))
                right = left
            told = row if told is None else self.row(one, right, ("joined", told, row))
        return told


def paper_of(union, why):
    """The paper of two nodes that clash, or of a ring of nodes."""
    kind, pairs = why
    maker = RowMaker(union)
    for label in links_needed(union, pairs):
        maker.link_row(label)
    ends = [maker.row_between(one, other) for one, other in pairs]
    return maker.rows, (kind, ends[0] if kind == "clash" else ends)
