"""The instances of clauses by ground words of at most a depth."""

from eithershown.errors import BadBound, Crowded
from eithershown.exchange import clause_variables
from eithershown.groundwords import check_depth, checked_named_clauses, count_to, symbols_in, with_constant, words_to
from eithershown.inference import instance
from eithershown.kinds import is_number
from eithershown.tables import power


def count_of(clauses, depth):
    """How many instances clauses with a constant have."""
    many = count_to(symbols_in(clauses), depth)
    return sum([power(many, len(clause_variables(clause))) for clause in clauses])


def count_instances(clauses, depth):
    told = with_constant(checked_named_clauses(clauses))
    check_depth(depth)
    return count_of(told, depth)


def checked_asking(clauses, depth, bound):
    """The clauses, with a constant, where depth and bound are numbers."""
    told = with_constant(checked_named_clauses(clauses))
    check_depth(depth)
    if not is_number(bound):
        raise BadBound(bound)
    return told


def check_crowd(clauses, depth, bound):
    many = count_of(clauses, depth)
    if many > bound:
        raise Crowded(many)


def checked_level(clauses, depth, bound):
    """The clauses, with a constant, of a level whose instances are not too many."""
    told = checked_asking(clauses, depth, bound)
    check_crowd(told, depth, bound)
    return told


def choices(words, many):
    """All rows of so many words, the last one changing first."""
    rows = [()]
    for _ in range(many):
        rows = [row + (word,) for row in rows for word in words]
    return rows


def substitutions_to(clauses, depth):
    """The pairs (index, substitution) of all instances of clauses with a constant."""
    variables = [sorted(clause_variables(clause)) for clause in clauses]
    # Where no clause has variables the words may be too many to list.
    words = words_to(symbols_in(clauses), depth) if max([len(row) for row in variables]) > 0 else []
    told = []
    for index, row in enumerate(variables):
        told.extend([(index, dict(zip(row, chosen))) for chosen in choices(words, len(row))])
    return told


def ground_clauses(clauses, pairs):
    """The instances themselves."""
    return [instance(clauses[index], substitution) for index, substitution in pairs]


def instances(clauses, depth, bound):
    return substitutions_to(checked_level(clauses, depth, bound), depth)
