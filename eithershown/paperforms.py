"""Whether objects have the form of derivations and of answers that can be told by texts."""

from eithershown.fitting import is_any_word
from eithershown.kinds import MOST_PLACES, is_list, is_name, is_number, is_pair, is_variable
from eithershown.rowforms import row_fits
from eithershown.tables import are_rows, is_table
from eithershown.worldlines import MOST_THINGS

MOST_NUMBER = 999999999


def is_told_number(thing):
    """Texts have numbers of at most nine figures."""
    return is_number(thing) and thing <= MOST_NUMBER


def are_all(things, is_right):
    """Whether it is a list of right things alone."""
    return is_list(things) and len([thing for thing in things if not is_right(thing)]) == 0


def is_told_row(thing):
    if not row_fits(thing) or not are_all(thing[1], is_told_number):
        return False
    return thing[0] != "replace" or are_all(thing[3][3], is_told_number)


def is_told_derivation(thing):
    return are_all(thing, is_told_row)


def is_told_table(many, thing):
    """Whether it is a table for some number of places."""
    if not isinstance(thing, dict):
        return False
    lengths = [len(row) for row in thing if isinstance(row, tuple)]
    return lengths != [] and lengths[0] <= MOST_PLACES and is_table(many, lengths[0], thing)


def are_told_rows(many, thing):
    """Whether it is a list of rows of some number of places."""
    if not is_list(thing) or len(thing) == 0:
        return is_list(thing)
    return is_list(thing[0]) and len(thing[0]) <= MOST_PLACES and are_rows(many, len(thing[0]), thing)


def is_told_world(thing):
    """Whether it is a world of some names, of as many things as texts may tell."""
    if not is_list(thing) or len(thing) != 3 or not is_number(thing[0]) or not 1 <= thing[0] <= MOST_THINGS:
        return False
    many, functions, predicates = thing
    if not isinstance(functions, dict) or not isinstance(predicates, dict):
        return False
    for name in functions:
        if not is_name(name) or name in predicates or not is_told_table(many, functions[name]):
            return False
    for name in predicates:
        if not is_name(name) or not are_told_rows(many, predicates[name]):
            return False
    return True


def is_class(thing):
    return are_all(thing, is_any_word) and len(thing) > 0


def is_place_row(thing):
    return are_all(thing, is_told_number) and len(thing) <= MOST_PLACES


def is_fact(thing):
    return is_pair(thing) and is_name(thing[0]) and is_place_row(thing[1])


def is_clash(node):
    if len(node) != 3 or not is_told_number(node[1]) or not isinstance(node[2], dict):
        return False
    for variable in node[2]:
        if not is_variable(variable) or not is_told_number(node[2][variable]):
            return False
    return True


def is_cell(node):
    return len(node) == 4 and is_name(node[1]) and is_place_row(node[2]) and is_list(node[3])


def is_tree(thing):
    work = [thing]
    while work:
        node = work.pop()
        if not is_list(node) or len(node) == 0:
            return False
        if node[0] == "cell" and is_cell(node):
            work.extend(node[3])
        elif node[0] != "clash" or not is_clash(node):
            return False
    return True


def is_told_answer(thing):
    if not is_list(thing) or len(thing) < 3 or not is_told_number(thing[1]):
        return False
    if thing[0] == "follows":
        return len(thing) == 3 and is_told_derivation(thing[2])
    if thing[0] == "fails":
        return len(thing) == 3 and is_told_world(thing[2])
    if thing[0] != "open" or len(thing) != 5 or not is_told_number(thing[2]) or not is_pair(thing[3]):
        return False
    return are_all(thing[3][0], is_class) and are_all(thing[3][1], is_fact) and are_all(thing[4], is_tree)
