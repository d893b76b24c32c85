"""The cells of worlds of so many things, their values by now, and what instances of clauses ask of them."""

from eithershown.clausenames import names_of
from eithershown.exchange import clause_variables
from eithershown.kinds import unlike
from eithershown.listing import world_of_choices
from eithershown.signatures import Names
from eithershown.worlds import all_rows


class Instance:
    """A clause with things for its variables."""

    def __init__(self, index, variables, literals, things):
        self.index = index
        self.variables = variables
        self.literals = literals
        self.things = things

    def leaf(self):
        return ("clash", self.index, dict(zip(self.variables, self.things)))


class Cells:
    """All cells as numbers, in the order in which worlds are numbered. A cell's worth is a thing, of predicates 0 or 1,
    None where it has none by now."""

    def __init__(self, clauses, many):
        self.many = many
        self.names = names_of(clauses)
        self.places = []
        self.counts = []
        self.starts = {}
        for name in sorted(self.names.functions):
            self.add_cells(name, self.names.functions[name], many)
        for name in sorted(self.names.predicates):
            self.add_cells(name, self.names.predicates[name], 2)
        self.tops = [max([-1] + list(row)) for _, row in self.places]
        self.worths = [None] * len(self.places)

    def add_cells(self, name, arity, count):
        self.starts[name] = len(self.places)
        for row in all_rows(self.many, arity):
            self.places.append((name, row))
            self.counts.append(count)

    def is_function(self, cell):
        return self.places[cell][0] in self.names.functions

    def coded_word(self, word, slots):
        """A variable as its number among the clause's, a word as the first cell of its name, and its parts."""
        if isinstance(word, str):
            return slots[word]
        return self.starts[word[0]], [self.coded_word(part, slots) for part in word[1:]]

    def coded_literal(self, literal, slots):
        is_so, atom = literal
        start = None if atom[0] == "=" else self.starts[atom[0]]
        return is_so, start, [self.coded_word(word, slots) for word in atom[1:]]

    def instances(self, clauses):
        """All instances, with things for all variables."""
        told = []
        for index, clause in enumerate(clauses):
            variables = sorted(clause_variables(clause))
            slots = {variable: at for at, variable in enumerate(variables)}
            literals = [self.coded_literal(literal, slots) for literal in clause]
            told.extend([Instance(index, variables, literals, row) for row in all_rows(self.many, len(variables))])
        return told

    def worth(self, word, things, asked):
        """The thing that a word names, None if this asks a cell without worth: asked gets it."""
        if isinstance(word, int):
            return things[word]
        at = 0
        for part in word[1]:
            thing = self.worth(part, things, asked)
            at = None if at is None or thing is None else at * self.many + thing
        if at is None:
            return None
        if self.worths[word[0] + at] is None:
            asked.append(word[0] + at)
        return self.worths[word[0] + at]

    def truth(self, start, words, things, asked):
        """0 or 1 for an atom, None if this asks a cell without worth."""
        if start is not None:
            return self.worth((start, words), things, asked)
        one = self.worth(words[0], things, asked)
        other = self.worth(words[1], things, asked)
        if one is None or other is None:
            return None
        return 1 if one == other else 0

    def judged(self, instance):
        """None if a literal is true; else at most two unlike cells, without worth, that it asks: none, if it fails."""
        cells = []
        for is_so, start, words in instance.literals:
            asked = []
            truth = self.truth(start, words, instance.things, asked)
            if truth is not None and (truth == 1) == is_so:
                return None
            cells = unlike(cells + asked)
            if len(cells) > 1:
                return cells[:2]
        return cells

    def reach_of(self, word, things, reached):
        """The thing that a word names, where all is told; reached gets all cells that this asks."""
        if isinstance(word, int):
            return things[word]
        at = 0
        for part in word[1]:
            at = at * self.many + self.reach_of(part, things, reached)
        reached.append(word[0] + at)
        return self.worths[word[0] + at]

    def reach(self, instance):
        """All cells that an instance asks, where all of them are told, as the bits of a number."""
        reached = []
        for _, start, words in instance.literals:
            if start is None:
                for word in words:
                    self.reach_of(word, instance.things, reached)
            else:
                self.reach_of((start, words), instance.things, reached)
        bits = 0
        for cell in reached:
            bits = bits | (1 << cell)
        return bits

    def world(self):
        """The world by the worths, with 0 where there is none."""
        functions = [(name, self.names.functions[name]) for name in self.names.functions]
        predicates = [(name, self.names.predicates[name]) for name in self.names.predicates]
        chosen = [0 if worth is None else worth for worth in self.worths]
        return world_of_choices(Names(functions, predicates), self.many, chosen)
