"""Ground words by what they weigh, and instances whose atoms weigh no more than is told."""

from eithershown.exchange import clause_variables, exchanged
from eithershown.orders import weigh
from eithershown.writing import written


class LightWords:
    """The ground words that functions make, up to the greatest weight that was asked for."""

    def __init__(self, order, arities):
        self.order = order
        self.arities = arities
        self.least = min([order.weights[name] for name, arity in arities if arity == 0])
        self.most = 0
        self.weighed = []
        self.sorted_to = {}

    def rows_of(self, lots, room):
        """All rows of one word of each lot, lightest first, that weigh at most so much together, with these weights."""
        if len(lots) == 0:
            return [(0, ())]
        told = []
        for weight, word in lots[0]:
            if weight + self.least * (len(lots) - 1) > room:
                break
            told.extend([(weight + more, (word,) + row) for more, row in self.rows_of(lots[1:], room - weight)])
        return told

    def deeper(self, shallow, deepest, most):
        """The words one deeper than the deepest ones, behind shallow ones, that weigh at most so much."""
        ahead = sorted(shallow + deepest, key=lambda pair: pair[0])
        told = []
        for name, arity in self.arities:
            own = self.order.weights[name]
            # The first of the deepest words stands at each place once.
            for at in range(arity):
                lots = [shallow] * at + [deepest] + [ahead] * (arity - at - 1)
                told.extend([(own + weight, (name,) + row) for weight, row in self.rows_of(lots, most - own)])
        return sorted(told, key=lambda pair: pair[0])

    def grow(self, most):
        """Makes all words of at most a weight."""
        constants = [(self.order.weights[name], (name,)) for name, arity in self.arities if arity == 0]
        shallow = []
        deepest = sorted([pair for pair in constants if pair[0] <= most], key=lambda pair: pair[0])
        while len(deepest) > 0:
            further = self.deeper(shallow, deepest, most)
            shallow = sorted(shallow + deepest, key=lambda pair: pair[0])
            deepest = further
        self.weighed = shallow
        self.most = most

    def words_to(self, most):
        """All words of at most a weight, by their texts."""
        if most not in self.sorted_to:
            if most > self.most:
                self.grow(most)
            self.sorted_to[most] = sorted([word for weight, word in self.weighed if weight <= most], key=written)
        return self.sorted_to[most]

    def room(self, atom, found, variable, most):
        """How much a variable's word may weigh if the atom weighs at most so much, and all variables for which nothing
        is found are light; None if it does not stand there."""
        counts = {}
        total = weigh(self.order, exchanged(atom, found), counts)
        if variable not in counts:
            return None
        others = sum([counts[name] for name in counts if name != variable])
        return (most - total + counts[variable] - others * (self.least - 1)) // counts[variable]

    def choices(self, clause, found, variable, most):
        """The words for a variable by which no atom need weigh more than is told."""
        rooms = [self.room(atom, found, variable, most) for _, atom in clause]
        return self.words_to(max(0, min([room for room in rooms if room is not None])))

    def is_light(self, clause, found, most):
        """Whether no atom weighs more than is told where all variables for which nothing is found weigh one."""
        return max([0] + [weigh(self.order, exchanged(atom, found), {}) for _, atom in clause]) <= most

    def substitutions(self, clause, found, most):
        """All ways on from what is found, by which no atom weighs more than is told."""
        told = [found] if self.is_light(clause, found, most) else []
        for variable in sorted(clause_variables(clause)):
            if variable not in found:
                told = [{**ahead, variable: word} for ahead in told
                        for word in self.choices(clause, ahead, variable, most)]
        return told
