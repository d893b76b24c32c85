"""What functions that ask for worlds of so many things are passed."""

from eithershown.errors import BadMany
from eithershown.groundwords import checked_named_clauses
from eithershown.kinds import is_number


def check_many(many):
    if not is_number(many) or many == 0:
        raise BadMany(many)


def checked_sized(clauses, many):
    """The clauses made of tuples, where each is right, and there is a thing."""
    told = checked_named_clauses(clauses)
    check_many(many)
    return told


def branches_due(many, greatest):
    """How many values a function's cell has to be tried with, where no thing above the greatest one stands; this is
    -1 where none stands."""
    return min(many, greatest + 2)
