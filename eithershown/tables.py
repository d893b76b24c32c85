"""Things, rows of things, and the tables that a world is made of."""

from eithershown.kinds import is_list, is_number


def power(base, times):
    total = 1
    for _ in range(times):
        total = total * base
    return total


def is_thing(many, thing):
    return is_number(thing) and thing < many


def is_row(many, arity, thing):
    if not is_list(thing) or len(thing) != arity:
        return False
    for place in thing:
        if not is_thing(many, place):
            return False
    return True


def is_table(many, arity, thing):
    """Whether it is a dict from all rows of so many places to things."""
    if not isinstance(thing, dict) or len(thing) != power(many, arity):
        return False
    for row in thing:
        if not is_row(many, arity, row) or not is_thing(many, thing[row]):
            return False
    return True


def are_rows(many, arity, thing):
    """Whether it is a list of unlike rows, in any order."""
    if not is_list(thing):
        return False
    for row in thing:
        if not is_row(many, arity, row):
            return False
    return len(set([tuple(row) for row in thing])) == len(thing)


def told_tables(functions):
    return {name: {row: functions[name][row] for row in sorted(functions[name])} for name in sorted(functions)}


def told_rows(predicates):
    return {name: sorted([tuple(row) for row in predicates[name]]) for name in sorted(predicates)}


def told_world(world):
    """The world as it is told: all new, ascending."""
    return world[0], told_tables(world[1]), told_rows(world[2])
