"""Clauses made of sentences, one sentence behind the other, and what each new name stands for."""

from eithershown.coining import Coiner
from eithershown.naming import with_sides_named
from eithershown.normal import normal
from eithershown.spreading import Spreader
from eithershown.trimming import told_clause, trimmed
from eithershown.witnesses import with_witnesses
from eithershown.writing import clause_text


def definition(name, variables, side):
    """The sentence that says that a new predicate is true where a side is."""
    told = ("iff", (name,) + tuple(variables), side)
    for variable in variables[::-1]:
        told = ("all", variable, told)
    return told


def without_alls(sentence):
    head = sentence[0]
    if head == "all":
        return without_alls(sentence[2])
    if head in ("and", "or"):
        return (head, without_alls(sentence[1]), without_alls(sentence[2]))
    return sentence


def has_constant(word):
    """Whether a constant stands in a word."""
    if isinstance(word, str):
        return False
    return len(word) == 1 or len([part for part in word[1:] if has_constant(part)]) > 0


def clause_has_constant(clause):
    for _, atom in clause:
        if len([word for word in atom[1:] if has_constant(word)]) > 0:
            return True
    return False


class Former:
    """Takes named sentences, and has their clauses, the rows of what new names stand for, and the arities of these."""

    def __init__(self, taken):
        self.coiner = Coiner(taken)
        self.clauses = []
        self.rows = []
        self.functions = []
        self.predicates = []
        self.stood = {}

    def take(self, label, sentence):
        sides = []
        told = with_sides_named(sentence, self.coiner, sides)
        for name, variables, side in sides:
            self.rows.append(("side", name, variables, side))
            self.predicates.append((name, len(variables)))
        self.take_normal(label, normal(told))
        for name, variables, side in sides:
            self.take_normal(label, normal(definition(name, variables, side)))

    def take_normal(self, label, sentence):
        witnesses = []
        told = with_witnesses(sentence, self.coiner, witnesses)
        for name, variables, variable, part in witnesses:
            self.rows.append(("witness", name, variables, variable, part))
            self.functions.append((name, len(variables)))
        spreader = Spreader(self.coiner)
        lists = spreader.lists_of(without_alls(told))
        for name, variables, parts in list(spreader.rows):
            self.rows.append(("part", name, variables, parts))
            self.predicates.append((name, len(variables)))
        for literals in lists + spreader.more:
            self.take_literals(label, literals)

    def take_literals(self, label, literals):
        left = trimmed(literals)
        if left is not None:
            clause = told_clause(left)
            text = clause_text(clause)
            if text not in self.stood:
                self.stood[text] = True
                self.clauses.append((label, clause))

    def end(self):
        """A constant more where none stands."""
        if len([clause for _, clause in self.clauses if clause_has_constant(clause)]) == 0:
            name = self.coiner.coin("k")
            self.rows.append(("constant", name))
            self.functions.append((name, 0))
            self.clauses.append(("things", [(True, ("=", (name,), (name,)))]))
