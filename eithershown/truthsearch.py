"""Truths for the atoms of ground clauses, or clauses that show that there are none.

Literals are numbers: twice an atom's number, one more for its denial. Each clause has an origin that tells how it is
derived: ("given", index), ("alike", node, node), ("holds", true atom's number, false one's), the last two with the
chain behind, or ("resolved", clause, list of (clause, atom)), later ones being resolved one by one.
"""

from eithershown.trimming import is_always_true

# Weights are made less by the second number once they grow beyond the first one.
HEAVY = 1000000000000
LIGHTER = 1000000000


class TruthSearch:
    """Puts truths on atoms; what clashes is resolved to a clause that bars it."""

    def __init__(self, ground, clauses):
        many = len(ground.atoms)
        self.ground = ground
        self.truths = [None] * (2 * many)
        self.levels = [0] * many
        self.reasons = [None] * many
        self.weights = [0] * many
        self.step = 1000
        self.trail = []
        self.limits = []
        self.at = 0
        self.clauses = []
        self.origins = []
        self.watchers = [[] for _ in self.truths]
        self.equalities = [number for number, atom in enumerate(ground.atoms) if atom[0] == "="]
        self.true_ones = None
        self.closing = None
        self.clash = None
        for index, clause in enumerate(clauses):
            if self.clash is None and not is_always_true(clause):
                self.add_given(ground.coded(clause), index)

    def add(self, literals, origin):
        """A clause more, which nothing watches yet."""
        self.clauses.append(literals)
        self.origins.append(origin)
        return len(self.clauses) - 1

    def add_given(self, literals, index):
        number = self.add(literals, ("given", index))
        if len(literals) > 1:
            self.watch(number)
        elif len(literals) == 0 or self.truths[literals[0]] is False:
            self.clash = number
        elif self.truths[literals[0]] is None:
            self.put_truth(literals[0], number)

    def watch(self, number):
        for literal in self.clauses[number][:2]:
            self.watchers[literal].append(number)

    def put_truth(self, literal, reason):
        self.truths[literal] = True
        self.truths[literal ^ 1] = False
        self.levels[literal // 2] = len(self.limits)
        self.reasons[literal // 2] = reason
        self.trail.append(literal)

    def is_watched_on(self, number, false):
        """Whether a clause goes on to be watched at a literal that became false; else another one is watched."""
        clause = self.clauses[number]
        if clause[0] == false:
            clause[0], clause[1] = clause[1], clause[0]
        if self.truths[clause[0]] is True:
            return True
        for at in range(2, len(clause)):
            if self.truths[clause[at]] is not False:
                clause[1], clause[at] = clause[at], clause[1]
                self.watchers[clause[1]].append(number)
                return False
        return True

    def go_on(self):
        """Puts all truths that clauses leave no choice about; returns a false clause, None if there is none."""
        false_clause = None
        while self.at < len(self.trail) and false_clause is None:
            false = self.trail[self.at] ^ 1
            self.at += 1
            kept = []
            for number in list(self.watchers[false]):
                if false_clause is not None or self.is_watched_on(number, false):
                    kept.append(number)
                    first = self.clauses[number][0]
                    if false_clause is None and self.truths[first] is False:
                        false_clause = number
                    elif false_clause is None and self.truths[first] is None:
                        self.put_truth(first, number)
            self.watchers[false] = kept
        return false_clause

    def go_back(self, level):
        """Takes back all truths above a level."""
        if level < len(self.limits):
            for literal in self.trail[self.limits[level]:]:
                self.truths[literal] = None
                self.truths[literal ^ 1] = None
            del self.trail[self.limits[level]:]
            del self.limits[level:]
            self.at = len(self.trail)

    def level_of(self, literal):
        return self.levels[literal // 2]

    def resolve_down(self, number, top):
        """The literals that are left of a false clause, all but one of the top level's being resolved with the
        reasons of their truths, and the steps; all of them are resolved if top is 0."""
        left = {literal: True for literal in self.clauses[number]}
        steps = []
        count = len([literal for literal in left if self.level_of(literal) == top])
        for literal in self.trail[::-1]:
            if count <= (1 if top > 0 else 0):
                break
            false = literal ^ 1
            if false in left:
                reason = self.reasons[literal // 2]
                steps.append((reason, literal // 2))
                del left[false]
                left.update({other: True for other in self.clauses[reason] if other != literal})
                count = len([other for other in left if self.level_of(other) == top])
        return left, steps

    def learn(self, number):
        """Goes back from a false clause to where what is resolved of it leaves no choice, if there is such a place."""
        top = max([0] + [self.level_of(literal) for literal in self.clauses[number]])
        self.go_back(top)
        left, steps = self.resolve_down(number, top)
        if top == 0:
            self.clash = self.add(list(left), ("resolved", number, steps))
            return
        self.weigh(list(left) + [2 * at for _, at in steps])
        literals = sorted(left, key=lambda literal: -self.level_of(literal))
        self.go_back(self.level_of(literals[1]) if len(literals) > 1 else 0)
        told = self.add(literals, ("resolved", number, steps))
        if len(literals) > 1:
            self.watch(told)
        self.put_truth(literals[0], told)

    def weigh(self, literals):
        """Lets atoms that clash count for what is put next, later ones more."""
        for literal in literals:
            self.weights[literal // 2] += self.step
        self.step += self.step // 20
        if self.step > HEAVY:
            self.step = self.step // LIGHTER
            self.weights = [weight // LIGHTER for weight in self.weights]

    def close(self):
        """Closes the words under the equalities that are true; returns a clause that these make false, or None."""
        self.close_under([number for number in self.equalities if self.truths[2 * number] is True])
        wrongs = self.wrong_equalities() + self.wrong_atoms()
        if len(wrongs) == 0:
            return None
        costs = [self.closing.cost_between(wrong[3], wrong[4]) for wrong in wrongs]
        return self.add_wrong(wrongs[costs.index(min(costs))])

    def close_under(self, true_ones):
        if true_ones != self.true_ones:
            self.true_ones = true_ones
            self.closing = self.ground.nodes.closing()
            for number in true_ones:
                one, other = self.ground.ends[number]
                self.closing.equate(one, other, number)
            self.closing.close()

    def wrong_equalities(self):
        """What is false though both words are together: quintuples (kind, two numbers for the origin, both nodes)."""
        told = []
        for number in self.equalities:
            if self.truths[2 * number] is False:
                one, other = self.ground.ends[number]
                if self.closing.are_together(one, other):
                    told.append(("alike", number, number, one, other))
        return told

    def wrong_atoms(self):
        """Atoms that are true and false though their words are together, likewise."""
        true_atoms = {}
        nodes = self.ground.atom_nodes
        for number, node in enumerate(nodes):
            if node is not None and self.truths[2 * number] is True:
                true_atoms[self.closing.forest.roots[node]] = number
        told = []
        for number, node in enumerate(nodes):
            if node is not None and self.truths[2 * number] is False:
                other = true_atoms.get(self.closing.forest.roots[node])
                if other is not None:
                    told.append(("holds", other, number, nodes[other], node))
        return told

    def add_wrong(self, wrong):
        """The clause that says why something is wrong."""
        kind, true_atom, false_atom, one, other = wrong
        chain = self.closing.chain(one, other)
        literals = {2 * false_atom: True}
        if kind == "holds":
            literals[2 * true_atom + 1] = True
        literals.update({2 * label + 1: True for label, _, _ in chain})
        return self.add(list(literals), (kind, true_atom, false_atom, chain))

    def next_literal(self):
        """The literal that is put next: of the atom that clashed last; true only where equalities make it so."""
        free = [number for number in range(len(self.weights)) if self.truths[2 * number] is None]
        best = free[0]
        for number in free:
            if self.weights[number] > self.weights[best]:
                best = number
        return 2 * best if self.is_implied(best) else 2 * best + 1

    def is_implied(self, number):
        node = self.ground.atom_nodes[number]
        if node is None:
            one, other = self.ground.ends[number]
            return self.closing.are_together(one, other)
        for other, there in enumerate(self.ground.atom_nodes):
            if there is not None and self.truths[2 * other] is True and self.closing.are_together(node, there):
                return True
        return False

    def search(self):
        """Whether there are truths for all atoms; else clash is the number of an empty clause."""
        if self.clash is not None:
            self.learn(self.clash)
        while self.clash is None:
            number = self.go_on()
            if number is None:
                number = self.close()
            if number is not None:
                self.learn(number)
            elif len(self.trail) == len(self.weights):
                return True
            else:
                literal = self.next_literal()
                self.limits.append(len(self.trail))
                self.put_truth(literal, None)
        return False
