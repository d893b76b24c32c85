"""The checker of derivations: it compares written things alone."""

from eithershown.errors import BadClauses, BadDerivation
from eithershown.fitting import is_any_clause
from eithershown.inference import instance, replacement, resolvent, without_same
from eithershown.kinds import bad_index, frozen, is_list
from eithershown.rowforms import frozen_row, row_fits


def check_clauses(clauses):
    index = bad_index(clauses, is_any_clause)
    if index is not None:
        raise BadClauses(index)


def are_alike(one, other):
    """Whether two clauses have the same literals, in whatever order."""
    for literal in one:
        if literal not in other:
            return False
    for literal in other:
        if literal not in one:
            return False
    return True


def unequal_parts(one, other):
    """The denials that the words of two words or atoms are one by one the same; None if they do not go together."""
    if isinstance(one, str) or isinstance(other, str) or one[0] != other[0] or len(one) != len(other):
        return None
    return [(False, ("=", left, right)) for left, right in zip(one[1:], other[1:])]


def of_premises(rule, clauses, spot):
    """What a rule tells of its premises' clauses; None if nothing."""
    if rule == "resolve":
        return resolvent(clauses[0], clauses[1], spot)
    if rule == "replace":
        return replacement(clauses[0], clauses[1], spot[0], spot[1], spot[2], spot[3])
    if rule == "same":
        return without_same(clauses[0], spot)
    return clauses[0]


def of_nothing(rule, spot):
    """What a rule without premises tells; None if nothing."""
    if rule == "alike":
        return [(True, ("=", spot, spot))]
    if rule == "either":
        return [(True, spot), (False, spot)]
    if rule == "turned":
        return [(False, ("=", spot[0], spot[1])), (True, ("=", spot[1], spot[0]))]
    if rule == "chained":
        return [(False, ("=", spot[0], spot[1])), (False, ("=", spot[1], spot[2])), (True, ("=", spot[0], spot[2]))]
    told = unequal_parts(spot[0], spot[1])
    if told is None or (rule == "holds" and spot[0][0] == "="):
        return None
    if rule == "parts":
        return told + [(True, ("=", spot[0], spot[1]))]
    return told + [(False, spot[0]), (True, spot[1])]


def told_by_rule(rule, sources, substitutions, spot):
    """What a rule that is not "given" tells of clauses under substitutions; None if nothing."""
    if len(sources) == 0:
        return of_nothing(rule, spot)
    return of_premises(rule, [instance(clause, words) for clause, words in zip(sources, substitutions)], spot)


def row_fault(clauses, ahead, row):
    """What is wrong with a row of right form behind the clauses of the rows ahead; None if it is right."""
    rule, premises, substitutions, spot, clause = row
    stock = clauses if rule == "given" else ahead
    for premise in premises:
        if premise >= len(stock):
            return "ahead"
    sources = [stock[premise] for premise in premises]
    told = sources[0] if rule == "given" else told_by_rule(rule, sources, substitutions, spot)
    if told is None:
        return "spot"
    return None if are_alike(told, clause) else "clause"


def derivation_fault(clauses, thing):
    check_clauses(clauses)
    if not is_list(thing):
        return ("form",)
    given = [frozen(clause) for clause in clauses]
    ahead = []
    for index, row in enumerate(thing):
        if not row_fits(row):
            return (index, "form")
        told = frozen_row(row)
        why = row_fault(given, ahead, told)
        if why is not None:
            return (index, why)
        ahead.append(told[4])
    return None


def is_refutation(clauses, thing):
    return derivation_fault(clauses, thing) is None and len(thing) > 0 and len(thing[-1][4]) == 0


def check_derivation(clauses, derivation):
    """Wrong clauses are raised ahead of a wrong derivation."""
    if derivation_fault(clauses, derivation) is not None:
        raise BadDerivation(derivation)
