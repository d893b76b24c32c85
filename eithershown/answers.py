"""Answers to problems, and what is wrong with answers that anybody tells."""

from eithershown.asking import check_bound, check_size, clauses_of, least_clash
from eithershown.checking import derivation_fault
from eithershown.groundwords import check_depth
from eithershown.instancing import check_crowd, ground_clauses, substitutions_to
from eithershown.kinds import is_list, is_number
from eithershown.levels import level_of
from eithershown.meaning import first_false, holds
from eithershown.searching import sized
from eithershown.splitting import fault_of_table, has_table_form
from eithershown.theories import check_problem
from eithershown.trees import tree_fault
from eithershown.worlds import all_rows, forgotten, world_fault


def with_all_names(names, world):
    """The world with tables for names that it has not: what these tell is nowhere asked."""
    many, functions, predicates = world
    more = {name: {row: 0 for row in all_rows(many, arity)} for name, arity in names.functions()
            if name not in functions}
    none = {name: [] for name, _ in names.predicates()}
    return many, {**more, **functions}, {**none, **predicates}


def answer_for(problem, depth, size, bound):
    check_problem(problem)
    check_depth(depth)
    check_size(size)
    check_bound(bound)
    clauses = clauses_of(problem.theory(), problem.goal())
    check_crowd(clauses, depth, bound)
    least = least_clash(clauses, depth)
    if least is not None:
        return ("follows", least, level_of(clauses, least)[1])
    trees = []
    for many in range(1, size + 1):
        kind, found = sized(clauses, many)
        if kind == "world":
            names = problem.theory().names()
            return ("fails", many, forgotten(with_all_names(names, found), names))
        trees.append(found)
    return ("open", depth, size, level_of(clauses, depth)[1], trees)


def has_answer_form(thing):
    """Whether it is a word of an answer with as many numbers as it wants, and a list at the end."""
    if not is_list(thing) or len(thing) < 3 or not is_number(thing[1]) or not is_list(thing[-1]):
        return False
    if thing[0] == "open":
        return len(thing) == 5 and is_number(thing[2])
    return len(thing) == 3 and (thing[0] == "follows" or thing[0] == "fails")


def why_not_follows(clauses, depth, number, rows):
    if number > depth:
        return ("depth",)
    fault = derivation_fault(clauses, rows)
    if fault is not None:
        return ("row",) + fault
    return ("last",) if len(rows) == 0 or len(rows[-1][4]) > 0 else None


def why_not_fails(problem, size, number, world):
    if number > size or len(world) == 0 or not is_number(world[0]) or world[0] != number:
        return ("size",)
    theory = problem.theory()
    if world_fault(theory.names(), world) is not None:
        return ("world",)
    name = first_false(world, theory)
    if name is not None:
        return ("axiom", name)
    return ("goal",) if holds(world, problem.goal()) else None


def why_not_open(clauses, depth, size, thing):
    _, told_depth, told_size, table, trees = thing
    if told_depth != depth or told_size != size:
        return ("numbers",)
    if not has_table_form(table):
        return ("table", ("form",))
    fault = fault_of_table(ground_clauses(clauses, substitutions_to(clauses, depth)), table)
    if fault is not None:
        return ("table", fault)
    if len(trees) != size:
        return ("trees", len(trees))
    for at, tree in enumerate(trees):
        fault = tree_fault(clauses, at + 1, tree)
        if fault is not None:
            return ("tree", at + 1) + fault
    return None


def answer_why(problem, depth, size, thing):
    check_problem(problem)
    check_depth(depth)
    check_size(size)
    if not has_answer_form(thing):
        return ("form",)
    if thing[0] == "fails":
        return why_not_fails(problem, size, thing[1], thing[2])
    clauses = clauses_of(problem.theory(), problem.goal())
    if thing[0] == "follows":
        return why_not_follows(clauses, depth, thing[1], thing[2])
    return why_not_open(clauses, depth, size, thing)
