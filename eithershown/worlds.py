"""Finite worlds: how many things there are, a table for each function, the true rows of each predicate."""

from eithershown.kinds import is_list, is_number
from eithershown.signatures import check_names
from eithershown.tables import are_rows, is_table, told_rows, told_tables


def all_rows(many, arity):
    rows = [()]
    for _ in range(arity):
        rows = [row + (thing,) for row in rows for thing in range(many)]
    return rows


def has_just(thing, pairs):
    """Whether it is a dict whose keys are just the names of the pairs."""
    if not isinstance(thing, dict) or len(thing) != len(pairs):
        return False
    return len([pair for pair in pairs if pair[0] in thing]) == len(pairs)


def has_form(names, thing):
    if not is_list(thing) or len(thing) != 3 or not is_number(thing[0]) or thing[0] == 0:
        return False
    return has_just(thing[1], names.functions()) and has_just(thing[2], names.predicates())


def world_fault(names, thing):
    check_names(names)
    if not has_form(names, thing):
        return ("form",)
    many, functions, predicates = thing
    for name, arity in names.functions():
        if not is_table(many, arity, functions[name]):
            return ("table", name)
    for name, arity in names.predicates():
        if not are_rows(many, arity, predicates[name]):
            return ("table", name)
    return None


def forgotten(world, names):
    check_names(names)
    many, functions, predicates = world
    return (many, told_tables({name: functions[name] for name in dict(names.functions())}),
            told_rows({name: predicates[name] for name in dict(names.predicates())}))


def grown(world, functions, predicates):
    return world[0], told_tables({**world[1], **functions}), told_rows({**world[2], **predicates})
