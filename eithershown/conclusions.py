"""What comes of clauses without equality by their greatest literals."""

from eithershown.errors import BadClause
from eithershown.exchange import clause_variables, exchanged
from eithershown.fitting import is_any_clause
from eithershown.inference import without
from eithershown.kinds import frozen, unlike
from eithershown.laying import apart_from, least_form
from eithershown.orders import check_order, first_unordered, is_above
from eithershown.unifying import most_general


def is_ordered_clause(order, thing):
    """Whether it is a clause without equality, all its names being of the order."""
    if not is_any_clause(thing):
        return False
    return len([atom for _, atom in thing if atom[0] == "=" or first_unordered(order, atom) is not None]) == 0


def checked_ordered_clause(order, thing):
    if not is_ordered_clause(order, thing):
        raise BadClause(thing)
    return frozen(thing)


def greatest_at(order, clause, truth):
    """The indexes of the literals of this truth above whose atom no atom of the clause is."""
    told = []
    for index, (is_so, atom) in enumerate(clause):
        if is_so == truth and len([other for _, other in clause if is_above(order, other, atom)]) == 0:
            told.append(index)
    return told


def put_in_literals(literals, substitution):
    return [(is_so, exchanged(atom, substitution)) for is_so, atom in literals]


def apart_pairs(order, one, other):
    """The triples (index, later, substitution) by which a greatest standing literal of one and a greatest denied one
    of other, whose names are apart, have like atoms."""
    told = []
    for index in greatest_at(order, one, True):
        for later in greatest_at(order, other, False):
            found = most_general([(one[index][1], other[later][1])])
            if found is not None:
                told.append((index, later, found))
    return told


def conclusions_of(order, one, other):
    """What conclusions tells of clauses of right form."""
    apart = apart_from(other, clause_variables(one))
    told = []
    for index, later, found in apart_pairs(order, one, apart):
        left, right = put_in_literals(one, found), put_in_literals(apart, found)
        rest = without(left, left[index]) + without(right, right[later])
        told.append((index, later, least_form(unlike(rest))))
    return told


def factor_pairs(order, clause):
    """The triples (index, later, substitution) by which a greatest standing literal and another standing one are
    alike."""
    told = []
    for index in greatest_at(order, clause, True):
        for later, (is_so, atom) in enumerate(clause):
            if is_so and later != index:
                found = most_general([(clause[index][1], atom)])
                if found is not None:
                    told.append((index, later, found))
    return told


def factors_of(order, clause):
    """What factors tells of a clause of right form."""
    told = []
    for index, later, found in factor_pairs(order, clause):
        rest = put_in_literals(clause[:later] + clause[later + 1:], found)
        told.append((index, later, least_form(unlike(rest))))
    return told


def conclusions(order, one, other):
    check_order(order)
    left = checked_ordered_clause(order, one)
    return conclusions_of(order, left, checked_ordered_clause(order, other))


def factors(order, clause):
    check_order(order)
    return factors_of(order, checked_ordered_clause(order, clause))
