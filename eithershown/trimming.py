"""Clauses without what says nothing, and with variables called in order."""

from eithershown.exchange import clause_variables, exchanged
from eithershown.kinds import frozen, unlike


def is_always_true(literals):
    """Whether an atom stands with both truths, or it is said that a word is itself."""
    for is_so, atom in literals:
        if (not is_so, atom) in literals or (is_so and atom[0] == "=" and atom[1] == atom[2]):
            return True
    return False


def trimmed(literals):
    told = unlike(frozen(literals))
    if is_always_true(told):
        return None
    return [(is_so, atom) for is_so, atom in told if atom[0] != "=" or atom[1] != atom[2]]


def told_clause(literals):
    told = unlike(frozen(literals))
    called = {variable: f"X{at + 1}" for at, variable in enumerate(clause_variables(told))}
    return [(is_so, exchanged(atom, called)) for is_so, atom in told]
