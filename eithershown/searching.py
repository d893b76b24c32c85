"""Worlds of so many things in which all clauses hold, or trees that show that there is none."""

from eithershown.sizesearch import SizeSearch
from eithershown.sizing import checked_sized


def sized(clauses, many):
    """What world_sized tells of clauses of right form."""
    search = SizeSearch(clauses, many)
    tree = search.search()
    return ("world", search.cells.world()) if tree is None else ("tree", search.told_tree(tree))


def has_world(clauses, many):
    return SizeSearch(clauses, many).search() is None


def world_sized(clauses, many):
    return sized(checked_sized(clauses, many), many)


def least_size(clauses, most):
    told = checked_sized(clauses, most)
    trees = []
    for many in range(1, most + 1):
        kind, found = sized(told, many)
        if kind == "world":
            return ("world", many, found)
        trees.append(found)
    return ("trees", trees)
