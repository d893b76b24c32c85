"""Levels: all instances by words of at most a depth, which clash or have a table."""

from eithershown.deriving import Deriver
from eithershown.errors import NoClash
from eithershown.fitting import is_any_substitution
from eithershown.instancing import (check_crowd, checked_asking, checked_level, count_of, ground_clauses,
                                    substitutions_to)
from eithershown.kinds import is_list, is_number, is_pair
from eithershown.needed import clauses_needed
from eithershown.rowforms import told_row
from eithershown.splitting import answer_to
from eithershown.writing import written


def from_clauses(clauses, pairs, rows):
    """A derivation from instances made one from the clauses: those that are given, instances of these, the rest."""
    deriver = Deriver()
    needed = clauses_needed(rows)
    sources = {index: deriver.given(index, clauses[index]) for index in sorted(set([pairs[at][0] for at in needed]))}
    homes = {}
    for at in needed:
        index, substitution = pairs[at]
        homes[at] = sources[index]
        if len(substitution) > 0:
            homes[at] = deriver.step("instance", [sources[index]], [substitution], None)
    places = []
    for row in rows:
        if row[0] == "given":
            places.append(homes[row[1][0]])
        else:
            deriver.rows.append(told_row(row, [places[premise] for premise in row[1]]))
            places.append(len(deriver.rows) - 1)
    return deriver.rows


def level_of(clauses, depth):
    """What level tells of clauses with a constant."""
    pairs = substitutions_to(clauses, depth)
    kind, told = answer_to(ground_clauses(clauses, pairs))
    return (kind, told) if kind == "table" else (kind, from_clauses(clauses, pairs, told))


def level(clauses, depth, bound):
    return level_of(checked_level(clauses, depth, bound), depth)


def least_depth(clauses, most, bound):
    told = checked_asking(clauses, most, bound)
    count = None
    for depth in range(most + 1):
        check_crowd(told, depth, bound)
        # As many instances as of the depth ahead are the very same, then and for all greater depths.
        if count_of(told, depth) == count:
            return None
        count = count_of(told, depth)
        if level_of(told, depth)[0] == "clash":
            return depth
    return None


def core_of(ground, kept):
    """The kept indexes on which a clash of these clauses hangs, ascending; None if they have a table."""
    kind, rows = answer_to([ground[at] for at in kept])
    return None if kind == "table" else [kept[at] for at in clauses_needed(rows)]


def least_core(ground):
    """Ascending indexes of clauses that clash, none of which can go; None if all have a table."""
    kept = core_of(ground, list(range(len(ground))))
    if kept is None:
        return None
    stays = {}
    while len(stays) < len(kept):
        at = [index for index in kept if index not in stays][-1]
        core = core_of(ground, [index for index in kept if index != at])
        if core is None:
            # What can not go from many clauses can not go from fewer.
            stays[at] = True
        else:
            kept = core
    return kept


def needed(clauses, depth, bound):
    told = checked_level(clauses, depth, bound)
    pairs = substitutions_to(told, depth)
    kept = least_core(ground_clauses(told, pairs))
    if kept is None:
        raise NoClash()
    return [pairs[at] for at in kept]


def pair_text(pair):
    """A text that is one for like instances alone."""
    words = pair[1]
    return f"{pair[0]}" + "".join([f" {variable} {written(words[variable])}" for variable in sorted(words)])


def is_instance_pair(thing):
    return is_pair(thing) and is_number(thing[0]) and is_any_substitution(thing[1])


def instance_indexes(pairs, thing):
    """The indexes of the instances that a list tells, None if it tells anything else."""
    if not is_list(thing):
        return None
    indexes = {pair_text(pair): at for at, pair in enumerate(pairs)}
    told = []
    for pair in thing:
        if not is_instance_pair(pair) or pair_text(pair) not in indexes:
            return None
        told.append(indexes[pair_text(pair)])
    return told


def is_needed(clauses, depth, bound, thing):
    told = checked_level(clauses, depth, bound)
    pairs = substitutions_to(told, depth)
    kept = instance_indexes(pairs, thing)
    if kept is None:
        return False
    ground = ground_clauses(told, pairs)
    if core_of(ground, kept) is None:
        return False
    for at in range(len(kept)):
        if core_of(ground, kept[:at] + kept[at + 1:]) is not None:
            return False
    return True
