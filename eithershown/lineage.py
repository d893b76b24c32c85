"""Derivations of clauses from those of which they came by conclusions and factors."""

from eithershown.deriving import Deriver
from eithershown.exchange import clause_variables, exchanged
from eithershown.laying import calls_apart, laying
from eithershown.unifying import most_general


def put_on(variables, called, found):
    """The substitution that calls variables anew, then puts what is found for them."""
    both = {variable: exchanged(called.get(variable, variable), found) for variable in sorted(variables)}
    return {variable: both[variable] for variable in both if both[variable] != variable}


class Lineage:
    """Forms with where each came from: a given clause's index, or other forms with the indexes of two literals."""

    def __init__(self, clauses):
        self.clauses = clauses
        self.forms = []
        self.origins = []

    def take(self, form, origin):
        """Takes a form, and tells its number."""
        self.forms.append(form)
        self.origins.append(origin)
        return len(self.forms) - 1

    def needed(self, number):
        """The numbers of the forms on which one hangs, its too, ascending: each hangs on lesser ones."""
        found = {number: True}
        for at in range(number, -1, -1):
            if at in found and self.origins[at][0] != "given":
                found.update({source: True for source in self.origins[at][1]})
        return sorted(found)

    def derivation(self, number):
        """A derivation whose last clause is a form."""
        deriver = Deriver()
        homes = {}
        for at in self.needed(number):
            kind, sources, places = self.origins[at]
            if kind == "given":
                row = deriver.given(sources, self.clauses[sources])
            elif kind == "factor":
                row = self.factor_row(deriver, homes, sources, places)
            else:
                row = self.resolved_row(deriver, homes, sources, places)
            homes[at] = self.called_row(deriver, row, self.forms[at])
        return deriver.rows

    def called_row(self, deriver, row, form):
        """A row's clause with its variables called as in its form."""
        calls = laying(deriver.clause(row), form, True, [], {})
        moved = {variable: calls[variable] for variable in sorted(calls) if calls[variable] != variable}
        return row if len(moved) == 0 else deriver.step("instance", [row], [moved], None)

    def factor_row(self, deriver, homes, sources, places):
        clause = self.forms[sources[0]]
        found = most_general([(clause[places[0]][1], clause[places[1]][1])])
        return deriver.step("instance", [homes[sources[0]]], [found], None)

    def resolved_row(self, deriver, homes, sources, places):
        one, other = self.forms[sources[0]], self.forms[sources[1]]
        called = calls_apart(clause_variables(other), clause_variables(one))
        found = most_general([(one[places[0]][1], exchanged(other[places[1]][1], called))])
        substitutions = [put_on(clause_variables(one), {}, found), put_on(clause_variables(other), called, found)]
        atom = exchanged(one[places[0]][1], found)
        return deriver.step("resolve", [homes[source] for source in sources], substitutions, atom)
