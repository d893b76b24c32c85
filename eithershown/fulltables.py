"""Tables that worlds give to levels, and worlds of tables that are full."""

from eithershown.clausenames import names_of
from eithershown.errors import BadTable, NotFull, NoWorld
from eithershown.groundset import GroundSet
from eithershown.groundwords import symbols_in
from eithershown.instancing import checked_level, ground_clauses, substitutions_to
from eithershown.meaning import Sense, false_giving
from eithershown.splitting import TableView, fault_of_table, table_with
from eithershown.tables import power, told_world
from eithershown.words import depth_of


def instances_of(clauses, depth):
    return ground_clauses(clauses, substitutions_to(clauses, depth))


def world_with(clauses, world):
    """The world with each constant that it has not standing for 0: of clauses with a constant, k1 alone can be so."""
    more = {name: {(): 0} for name, arity in symbols_in(clauses) if arity == 0}
    return world[0], {**more, **world[1]}, world[2]


def table_of(clauses, depth, bound, world):
    told = checked_level(clauses, depth, bound)
    whole = world_with(told, world)
    if len([clause for clause in told if false_giving(whole, clause) is not None]) > 0:
        raise NoWorld(world)
    sense = Sense(whole)
    ground = GroundSet(instances_of(told, depth))
    lots = {}
    for word in ground.words:
        lots.setdefault(sense.worth(word, {}), []).append(word)
    return table_with([lots[thing] for thing in lots], [atom for atom in ground.atoms if sense.is_fact(atom, {})])


def checked_view(clauses, depth, table):
    """The table, with no fault for the instances, ready to be asked."""
    fault = fault_of_table(instances_of(clauses, depth), table)
    if fault is not None:
        raise BadTable(fault)
    return TableView(table[0], table[1])


def does_fill(clauses, depth, view, many):
    """Whether each of so many classes has a word that is not deeper, and all rows of classes have words."""
    if len(set([view.home_of(word) for word in view.words if depth_of(word) <= depth])) < many:
        return False
    rows = sorted(set([view.row_of(word) for word in view.words]))
    for name, arity in symbols_in(clauses):
        if len([row for row in rows if row[0] == name]) < power(many, arity):
            return False
    return True


def is_full(clauses, depth, bound, table):
    told = checked_level(clauses, depth, bound)
    view = checked_view(told, depth, table)
    return does_fill(told, depth, view, len(table[0]))


def world_of(clauses, depth, bound, table):
    told = checked_level(clauses, depth, bound)
    view = checked_view(told, depth, table)
    if not does_fill(told, depth, view, len(table[0])):
        raise NotFull()
    functions = {name: {} for name, _ in symbols_in(told)}
    for word in view.words:
        functions[word[0]][view.row_of(word)[1:]] = view.home_of(word)
    names = names_of(told)
    predicates = {name: [] for name in names.predicates}
    for fact in view.facts:
        predicates[fact[0]].append(fact[1:])
    return told_world((len(table[0]), functions, predicates))
