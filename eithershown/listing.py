"""Worlds numbered, and counted with those that are turned from one another as one."""

from itertools import permutations

from eithershown.errors import BadNumber
from eithershown.shapes import row_turned, world_turned
from eithershown.signatures import check_names
from eithershown.tables import is_thing, power
from eithershown.worlds import all_rows, forgotten


def choices_of(names, many):
    """How many choices each row of each name has, in the order in which worlds are numbered."""
    told = []
    for _, arity in names.functions():
        told.extend([many] * power(many, arity))
    for _, arity in names.predicates():
        told.extend([2] * power(many, arity))
    return told


def chosen_of(names, world):
    """What the tables tell, row by row: things, and 0 or 1."""
    told = []
    for name, arity in names.functions():
        told.extend([world[1][name][row] for row in all_rows(world[0], arity)])
    for name, arity in names.predicates():
        facts = {tuple(row): True for row in world[2][name]}
        told.extend([1 if row in facts else 0 for row in all_rows(world[0], arity)])
    return told


def count_worlds(names, many):
    check_names(names)
    total = 1
    for count in choices_of(names, many):
        total = total * count
    return total


def world_of_choices(names, many, chosen):
    functions, predicates = {}, {}
    at = 0
    for name, arity in names.functions():
        rows = all_rows(many, arity)
        functions[name] = dict(zip(rows, chosen[at:at + len(rows)]))
        at += len(rows)
    for name, arity in names.predicates():
        rows = all_rows(many, arity)
        predicates[name] = [row for row, choice in zip(rows, chosen[at:at + len(rows)]) if choice == 1]
        at += len(rows)
    return many, functions, predicates


def world_at(names, many, number):
    check_names(names)
    if not is_thing(count_worlds(names, many), number):
        raise BadNumber(number)
    chosen = []
    rest = number
    for count in choices_of(names, many)[::-1]:
        rest, choice = divmod(rest, count)
        chosen.append(choice)
    return world_of_choices(names, many, chosen[::-1])


def world_number(names, world):
    check_names(names)
    total = 0
    for count, choice in zip(choices_of(names, world[0]), chosen_of(names, world)):
        total = total * count + choice
    return total


def ring_lengths(rows, turn):
    """How many rows each ring of rows has that a turn leads into one another."""
    told = []
    seen = {}
    for row in rows:
        length = 0
        at = row
        while at not in seen:
            seen[at] = True
            length += 1
            at = row_turned(at, turn)
        if length > 0:
            told.append(length)
    return told


def kept_things(turn, times):
    """How many things are as they were when they are turned so often."""
    told = 0
    for thing in range(len(turn)):
        at = thing
        for _ in range(times):
            at = turn[at]
        if at == thing:
            told += 1
    return told


def kept_worlds(names, many, turn):
    """How many worlds a turn leaves as they are: what a table tells of one row of a ring tells it of all, and what
    a function tells must be as it was behind the whole ring."""
    total = 1
    for _, arity in names.functions():
        for length in ring_lengths(all_rows(many, arity), turn):
            total = total * kept_things(turn, length)
    for _, arity in names.predicates():
        total = total * power(2, len(ring_lengths(all_rows(many, arity), turn)))
    return total


def count_shapes(names, many):
    check_names(names)
    total = 0
    count = 0
    for turn in permutations(range(many)):
        total = total + kept_worlds(names, many, turn)
        count += 1
    return total // count


def first_shape(names, world):
    check_names(names)
    told = forgotten(world, names)
    choices = [chosen_of(names, world_turned(told, turn)) for turn in permutations(range(world[0]))]
    return world_of_choices(names, world[0], min(choices))
