"""Worlds cut down to what words name, with things made one, or with twins."""

from eithershown.errors import BadThing, BadWorld
from eithershown.tables import is_thing, told_world
from eithershown.worlds import all_rows


def things_named(world):
    """The things that words without variables name, of thing 0 if there is no constant."""
    found = {world[1][name][()]: True for name in world[1] if () in world[1][name]}
    if len(found) == 0:
        found[0] = True
    count = 0
    while count < len(found):
        count = len(found)
        for table in [world[1][name] for name in world[1]]:
            for row in table:
                if len([thing for thing in row if thing not in found]) == 0:
                    found[table[row]] = True
    return sorted(found)


def called(row, calls):
    return tuple([calls[thing] for thing in row])


def cut_down(world):
    things = things_named(world)
    calls = {thing: at for at, thing in enumerate(things)}
    functions, predicates = {}, {}
    for name in world[1]:
        table = world[1][name]
        functions[name] = {called(row, calls): calls[table[row]] for row in table
                           if len([thing for thing in row if thing not in calls]) == 0}
    for name in world[2]:
        predicates[name] = [called(row, calls) for row in world[2][name]
                            if len([thing for thing in row if thing not in calls]) == 0]
    return told_world((len(things), functions, predicates))


def is_narrow(world):
    """Whether functions have no place, and predicates at most one."""
    for name in world[1]:
        if list(world[1][name]) != [()]:
            return False
    return len([row for name in world[2] for row in world[2][name] if len(row) > 1]) == 0


def merged(world):
    if not is_narrow(world):
        raise BadWorld(world)
    many, functions, predicates = world
    facts = {name: {tuple(row): True for row in predicates[name]} for name in predicates}
    kinds = {}
    calls = []
    for thing in range(many):
        truths = tuple([(thing,) in facts[name] for name in sorted(facts)])
        calls.append(kinds.setdefault(truths, len(kinds)))
    return told_world((len(kinds), {name: {(): calls[functions[name][()]]} for name in functions},
                       {name: sorted(set([called(row, calls) for row in facts[name]])) for name in facts}))


def twin(world, thing):
    many, functions, predicates = world
    if not is_thing(many, thing):
        raise BadThing(thing)
    calls = list(range(many)) + [thing]
    tables, truths = {}, {}
    for name in functions:
        arity = len(list(functions[name])[0])
        tables[name] = {row: functions[name][called(row, calls)] for row in all_rows(many + 1, arity)}
    for name in predicates:
        facts = {tuple(row): True for row in predicates[name]}
        arities = [len(row) for row in facts]
        rows = all_rows(many + 1, arities[0]) if len(arities) > 0 else []
        truths[name] = [row for row in rows if called(row, calls) in facts]
    return told_world((many + 1, tables, truths))
