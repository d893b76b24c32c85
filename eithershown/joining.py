"""Derivations that need a literal no more, and refutations by both truths of an atom joined."""

from eithershown.checking import check_clauses, check_derivation, is_refutation
from eithershown.deriving import Deriver
from eithershown.errors import BadAtom, BadRefutation, NotGround
from eithershown.exchange import variables_in
from eithershown.fitting import is_any_atom
from eithershown.inference import instance
from eithershown.kinds import frozen
from eithershown.rowforms import frozen_row, told_row
from eithershown.steps import checked_literal


class Discharger:
    """Writes a derivation anew without the clause of one literal: where this is given, either stands for it. So each
    clause has at most the literal's contrary besides, and all that it had."""

    def __init__(self, clauses, literal, derivation):
        self.clauses = clauses
        self.atom = literal[1]
        self.contrary = (not literal[0], literal[1])
        self.old = derivation
        self.deriver = Deriver()
        self.homes = []

    def take(self, row):
        rule, premises, substitutions, spot, _ = frozen_row(row)
        if rule != "given":
            sources = [self.homes[premise] for premise in premises]
            if rule == "replace" and self.is_mistaken(premises[0], substitutions[0], spot):
                sources[0] = self.turned_equality(sources[0], substitutions[0], spot)
                substitutions[0] = {}
            self.homes.append(self.deriver.step(rule, sources, substitutions, spot))
        elif premises[0] == len(self.clauses):
            self.homes.append(self.deriver.plain_step("either", [], self.atom))
        else:
            self.homes.append(self.deriver.given(premises[0], self.clauses[premises[0]]))

    def is_mistaken(self, premise, substitution, spot):
        """Whether the contrary would be taken for the equality, which stands the other way round."""
        if self.contrary != (True, ("=", spot[0], spot[1])):
            return False
        return self.contrary not in instance(frozen(self.old[premise][4]), substitution)

    def turned_equality(self, source, substitution, spot):
        """The clause with the equality turned: it becomes the contrary, and goes with it."""
        turned = self.deriver.plain_step("turned", [], (spot[1], spot[0]))
        return self.deriver.step("resolve", [source, turned], [substitution, {}], ("=", spot[1], spot[0]))


def without_literal(clauses, literal, derivation):
    discharger = Discharger(clauses, literal, derivation)
    for row in derivation:
        discharger.take(row)
    return discharger.deriver.rows


def check_ground(atom, thing):
    if len(variables_in(atom)) > 0:
        raise NotGround(thing)


def discharged(clauses, literal, derivation):
    check_clauses(clauses)
    told = checked_literal(literal)
    check_ground(told[1], literal)
    check_derivation(list(clauses) + [[told]], derivation)
    return without_literal(clauses, told, derivation)


def joined_rows(one, other, atom):
    """Both derivations behind one another, their last clauses resolved."""
    many = len(one)
    deriver = Deriver()
    deriver.rows.extend(one)
    for row in other:
        deriver.rows.append(told_row(row, row[1] if row[0] == "given" else [premise + many for premise in row[1]]))
    deriver.plain_step("resolve", [many + len(other) - 1, many - 1], atom)
    return deriver.rows


def joined(clauses, atom, one, other):
    check_clauses(clauses)
    if not is_any_atom(atom):
        raise BadAtom(atom)
    told = frozen(atom)
    check_ground(told, atom)
    if not is_refutation(list(clauses) + [[(True, told)]], one):
        raise BadRefutation(one)
    if not is_refutation(list(clauses) + [[(False, told)]], other):
        raise BadRefutation(other)
    left = without_literal(clauses, (True, told), one)
    right = without_literal(clauses, (False, told), other)
    if len(left[-1][4]) == 0:
        return left
    return right if len(right[-1][4]) == 0 else joined_rows(left, right, told)
