"""How many worlds of so many things there are in which all clauses hold, and each of them by its number."""

from eithershown.census import Census
from eithershown.errors import BadNumber
from eithershown.sizing import checked_sized
from eithershown.tables import is_thing


def how_many(clauses, many):
    return Census(checked_sized(clauses, many), many).count()


def world_there(clauses, many, number):
    told = checked_sized(clauses, many)
    census = Census(told, many)
    if not is_thing(census.count(), number):
        raise BadNumber(number)
    census.go_to(number)
    return census.cells.world()
