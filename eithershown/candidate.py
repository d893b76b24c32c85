"""The world that an order builds from clauses, from below."""

from eithershown.conclusions import put_in_literals
from eithershown.errors import BadArities, BadNumber, NotGround
from eithershown.exchange import clause_variables, variables_in
from eithershown.fitting import atom_fits, is_equality
from eithershown.kinds import bad_pair, frozen, is_arity, is_list, is_number
from eithershown.loop import checked_ordered_clauses
from eithershown.making import Making
from eithershown.orders import check_order, first_unordered


def bad_arity_index(order, arities):
    """The index of the first thing that is no pair of a name of the order and an arity, or whose name stood before; 0
    for no list, how many there are if none is a constant, None if all is right."""
    if not is_list(arities):
        return 0
    stood = []
    for index, pair in enumerate(arities):
        if bad_pair([pair], stood, is_arity) is not None or pair[0] not in order.ranks:
            return index
        stood.append(pair[0])
    return None if 0 in [arity for _, arity in arities] else len(arities)


def checked_making(order, arities, clauses):
    check_order(order)
    index = bad_arity_index(order, arities)
    if index is not None:
        raise BadArities(index)
    return Making(order, [(name, arity) for name, arity in arities], checked_ordered_clauses(order, clauses))


def is_ordered_ground(order, thing):
    """Whether it is an atom without variables, no equality, of the order's names."""
    return atom_fits(thing, None, None, ()) and not is_equality(thing) and first_unordered(order, thing) is None


def maker(order, arities, clauses, atom):
    making = checked_making(order, arities, clauses)
    if not is_ordered_ground(order, atom):
        raise NotGround(atom)
    return making.maker(frozen(atom))


def first_failing(making, clause, found, weight):
    """The first way on from what is found, by words' texts, variables ascending, by which a clause fails and no atom
    weighs more than is told; None if there is none. found tells of the first variables alone."""
    literals = put_in_literals(clause, found)
    if making.holds_by_made([literal for literal in literals if len(variables_in(literal[1])) == 0]):
        return None
    variables = sorted(clause_variables(literals))
    if len(variables) == 0:
        return found
    for word in making.light.choices(clause, found, variables[0], weight):
        told = first_failing(making, clause, {**found, variables[0]: word}, weight)
        if told is not None:
            return told
    return None


def fails_at(order, arities, clauses, weight):
    making = checked_making(order, arities, clauses)
    if not is_number(weight):
        raise BadNumber(weight)
    for index, clause in enumerate(making.clauses):
        if making.light.is_light(clause, {}, weight):
            words = first_failing(making, clause, {}, weight)
            if words is not None:
                return (index, words)
    return None
