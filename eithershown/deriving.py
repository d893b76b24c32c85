"""Derivations written row by row."""

from eithershown.checking import told_by_rule
from eithershown.kinds import frozen, unlike
from eithershown.rowforms import told_row, told_spot


class Deriver:
    """Writes right rows, each with the clause that its rule tells; each method returns the index of its row."""

    def __init__(self):
        self.rows = []

    def clause(self, index):
        return self.rows[index][4]

    def given(self, index, clause):
        self.rows.append(("given", [index], [], None, unlike(frozen(clause))))
        return len(self.rows) - 1

    def step(self, rule, premises, substitutions, spot):
        """A row by another rule, of words and literals made of tuples; the rule must tell something."""
        told = told_by_rule(rule, [self.clause(premise) for premise in premises], substitutions, spot)
        self.rows.append((rule, list(premises), substitutions, told_spot(rule, spot), unlike(told)))
        return len(self.rows) - 1

    def plain_step(self, rule, premises, spot):
        """A row that puts nothing for variables."""
        return self.step(rule, premises, [{} for _ in premises], spot)

    def again(self, index):
        """A row once more."""
        self.rows.append(told_row(self.rows[index], self.rows[index][1]))
        return len(self.rows) - 1
