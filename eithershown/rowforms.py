"""What the rows of derivations look like, each as its rule wants it."""

from eithershown.exchange import frozen_substitution
from eithershown.fitting import is_any_atom, is_any_clause, is_any_literal, is_any_substitution, is_any_word
from eithershown.kinds import frozen, is_list, is_number, unlike

# How many premises each rule has.
PREMISES = {
    "given": 1, "instance": 1, "resolve": 2, "replace": 2, "same": 1, "alike": 0, "either": 0, "turned": 0,
    "chained": 0, "parts": 0, "holds": 0,
}
# What each rule's spot is: nothing, one thing, or a row of things.
SPOTS = {
    "given": (), "instance": (), "resolve": ("atom",), "replace": ("word", "word", "literal", "place"),
    "same": ("word",), "alike": ("word",), "either": ("atom",), "turned": ("word", "word"),
    "chained": ("word", "word", "word"), "parts": ("word", "word"), "holds": ("atom", "atom"),
}


def are_numbers(thing):
    return is_list(thing) and len([number for number in thing if not is_number(number)]) == 0


def is_literal_place(thing):
    return are_numbers(thing) and len(thing) > 0


def substitutions_of(rule):
    """How many substitutions a rule has."""
    return 0 if rule == "given" else PREMISES[rule]


def part_fits(kind, thing):
    if kind == "word":
        return is_any_word(thing)
    if kind == "atom":
        return is_any_atom(thing)
    return is_any_literal(thing) if kind == "literal" else is_literal_place(thing)


def spot_fits(kinds, spot):
    if len(kinds) == 0:
        return spot is None
    if len(kinds) == 1:
        return part_fits(kinds[0], spot)
    if not is_list(spot) or len(spot) != len(kinds):
        return False
    return len([kind for kind, part in zip(kinds, spot) if not part_fits(kind, part)]) == 0


def are_substitutions(thing):
    return is_list(thing) and len([part for part in thing if not is_any_substitution(part)]) == 0


def row_fits(thing):
    """Whether it is a quintuple of such things as its rule wants."""
    if not is_list(thing) or len(thing) != 5 or not isinstance(thing[0], str) or thing[0] not in PREMISES:
        return False
    rule, premises, substitutions, spot, clause = thing
    if not are_numbers(premises) or len(premises) != PREMISES[rule]:
        return False
    if not are_substitutions(substitutions) or len(substitutions) != substitutions_of(rule):
        return False
    return spot_fits(SPOTS[rule], spot) and is_any_clause(clause)


def frozen_row(row):
    """The row with tuples for lists in its words and literals."""
    rule, premises, substitutions, spot, clause = row
    return rule, premises, [frozen_substitution(part) for part in substitutions], frozen(spot), frozen(clause)


def told_spot(rule, spot):
    """A spot made of tuples as it is told: places are lists."""
    return spot[:3] + (list(spot[3]),) if rule == "replace" else spot


def told_row(row, premises):
    """A row as it is told, with other premises: all new, like literals once."""
    rule, _, substitutions, spot, clause = frozen_row(row)
    return rule, list(premises), substitutions, told_spot(rule, spot), unlike(clause)
