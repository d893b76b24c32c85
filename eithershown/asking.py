"""What is asked of problems: their clauses, up to which depth, which size and which bound."""

from eithershown.clauseforms import Form
from eithershown.errors import BadBound, BadSize
from eithershown.instancing import count_of, ground_clauses, substitutions_to
from eithershown.kinds import frozen, is_number
from eithershown.searching import has_world
from eithershown.splitting import do_clash


def check_size(size):
    if not is_number(size) or size == 0:
        raise BadSize(size)


def check_bound(bound):
    if not is_number(bound):
        raise BadBound(bound)


def clauses_of(theory, goal):
    """The clauses of the axioms and of a goal's denial, without names; a constant always stands there."""
    return [frozen(clause) for _, clause in Form(theory, goal).clauses()]


def does_level_clash(clauses, depth):
    """Whether the instances of a depth, or of a lesser one, clash: what clashes does so at each greater depth."""
    return do_clash(ground_clauses(clauses, substitutions_to(clauses, depth)))


def least_clash(clauses, depth):
    """The least depth up to one at which instances clash, None if none does."""
    if not does_level_clash(clauses, depth):
        return None
    for number in range(depth):
        if does_level_clash(clauses, number):
            return number
    return depth


def first_word(clauses, depth, size):
    """The first word of the answer for a problem with these clauses."""
    if does_level_clash(clauses, depth):
        return "follows"
    for many in range(1, size + 1):
        if has_world(clauses, many):
            return "fails"
    return "open"


def is_crowded(clauses, depth, bound):
    return count_of(clauses, depth) > bound
