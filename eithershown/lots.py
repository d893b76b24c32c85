"""Which axioms are needed, and what a theory tells of atoms."""

from eithershown.asking import check_bound, clauses_of, does_level_clash, is_crowded
from eithershown.errors import BadAtoms, Crowded
from eithershown.fitting import atom_fits
from eithershown.groundwords import check_depth
from eithershown.instancing import check_crowd, count_of
from eithershown.kinds import bad_index, frozen
from eithershown.theories import Theory, check_problem, check_theory


def does_lot_clash(problem, lot, depth):
    """Whether the axioms of a lot, and the goal's denial if it is among them, clash within a depth."""
    theory = problem.theory()
    axioms = [axiom for axiom in theory.axioms() if axiom[0] in lot]
    goal = problem.goal() if "goal" in lot else None
    return does_level_clash(clauses_of(Theory(theory.names(), axioms), goal), depth)


def needed_names(problem, depth, bound):
    check_problem(problem)
    check_depth(depth)
    check_bound(bound)
    check_crowd(clauses_of(problem.theory(), problem.goal()), depth, bound)
    kept = sorted([name for name, _ in problem.theory().axioms()]) + ["goal"]
    if not does_lot_clash(problem, kept, depth):
        return None
    for name in kept[::-1]:
        rest = [other for other in kept if other != name]
        if does_lot_clash(problem, rest, depth):
            kept = rest
    return kept


def what_is_known(theory, depth, atom):
    if does_level_clash(clauses_of(theory, atom), depth):
        return "follows"
    return "denied" if does_level_clash(clauses_of(theory, ("not", atom)), depth) else "open"


def atoms_known(theory, depth, atoms, bound):
    check_theory(theory)
    check_depth(depth)
    functions, predicates = dict(theory.names().functions()), dict(theory.names().predicates())
    index = bad_index(atoms, lambda thing: atom_fits(thing, functions, predicates, ()))
    if index is not None:
        raise BadAtoms(index)
    check_bound(bound)
    told = [frozen(atom) for atom in atoms]
    for atom in told:
        clauses = clauses_of(theory, atom)
        if is_crowded(clauses, depth, bound):
            raise Crowded(count_of(clauses, depth))
    return [what_is_known(theory, depth, atom) for atom in told]
